import PyProof.Rows.All
import Wide.All
import OpenK.AllK
import Wide.FinOn
import HandS.ForMost
import HandS.ForExc
import HandS.SetKeys
import HandS.Strs
import HandS.Set
import HandS.More
import HandS.Wide
import HandS.IsInst
import HandS.ExcInit
import HandS.CallLocal
import HandS.TupAny
import HandS.Codes
import KE.GoesEnum
import HandS.WrittenGet
import KE.KDictZip
import KE.GoesMore
import HandS.Zip
import HandS.ListItems
import KE.KItemsList
import HandS.Conv
import HandS.DeepEq
import PyProof.EqLayable
import HandS.Nested
import HandS.HeadWalk
import KE.KSuper
import HandS.ExcField
import HandS.TryMany
import KE.KDictDisplayH
import HandS.DictComp
import HandS.Iter
import HandS.Gcd
import HandS.SetFor
import HandS.HeadHook4
import HandS.HeadEnd
import HandS.Head2
import PySem.Challenge.RW_toldonward_k80_whole_changes_keep_the_tr
set_option Elab.async false
set_option maxRecDepth 100000
set_option maxHeartbeats 0
set_option linter.all false
/-! Own rules beside the hand layer: for any program. -/
namespace TdSet
open PySem PySem.Spec PyProof.Rows SS
/-- how many different ones stand among the first i -/
def dcnt (xs : List Str) : Nat → Nat
  | 0 => 0
  | i + 1 => if (xs.take i).any (· == xs.getD i Str.empty) = true then dcnt xs i else dcnt xs i + 1
theorem dcnt_le (xs : List Str) : ∀ i, dcnt xs i ≤ i
  | 0 => Nat.le_refl _
  | i + 1 => by
    have := dcnt_le xs i
    unfold dcnt
    split <;> omega
theorem dcnt_full {xs : List Str} : ∀ {i : Nat}, i ≤ xs.length → dcnt xs i = i → (xs.take i).Nodup
  | 0, _, _ => by simp
  | i + 1, hi, h => by
    have hl := dcnt_le xs i
    unfold dcnt at h
    split at h
    · omega
    · rename_i hn
      have ih := dcnt_full (xs := xs) (i := i) (by omega) (by omega)
      have hx : i < xs.length := by omega
      rw [List.take_succ_eq_append_getElem hx]
      refine List.nodup_append.mpr ⟨ih, by simp, ?_⟩
      intro a ha b hb hab
      have e : b = xs[i] := by simpa using hb
      apply hn
      refine List.any_eq_true.mpr ⟨a, ha, ?_⟩
      rw [hab, e, List.getD_eq_getElem?_getD, List.getElem?_eq_getElem hx]
      simp
theorem dcnt_nodup {xs : List Str} : ∀ {i : Nat}, i ≤ xs.length → (xs.take i).Nodup → dcnt xs i = i
  | 0, _, _ => rfl
  | i + 1, hi, h => by
    have hx : i < xs.length := by omega
    rw [List.take_succ_eq_append_getElem hx] at h
    obtain ⟨h1, _, h3⟩ := List.nodup_append.mp h
    have ih := dcnt_nodup (xs := xs) (i := i) (by omega) h1
    unfold dcnt
    rw [if_neg, ih]
    intro hh
    obtain ⟨a, ha, hb⟩ := List.any_eq_true.mp hh
    rw [List.getD_eq_getElem?_getD, List.getElem?_eq_getElem hx] at hb
    exact h3 a ha xs[i] (by simp) (by simpa using hb)
/-- the set at S has met the first i texts -/
def Met (prog : Program) (w : World) (S : Addr) (xs : List Str) (i : Nat) (h : Heap) : Prop := h.SetOf (PySem.strKind prog w) S (fun z => (xs.take i).any (· == z)) (dcnt xs i)
theorem Met.move {prog : Program} {w : World} {S : Addr} {xs : List Str} {i : Nat} {h h' : Heap} (m : Met prog w S xs i h) (k : ∀ o, h.get? S = some o → h'.get? S = some o) : Met prog w S xs i h' := by
  obtain ⟨o, es, ep, tb, e, r⟩ := m
  exact ⟨o, es, ep, tb, k o e, r⟩
/-- one text more -/
theorem Met.more {prog : Program} {w : World} {S : Addr} {xs : List Str} {i : Nat} {h : Heap} {z : Str} (hz : xs[i]? = some z)
    (m : h.SetOf (PySem.strKind prog w) S (fun y => (xs.take i).any (· == y) || decide (y = z)) (if (xs.take i).any (· == z) = true then dcnt xs i else dcnt xs i + 1)) : Met prog w S xs (i + 1) h := by
  have e : xs.take (i + 1) = xs.take i ++ [z] := by rw [List.take_add_one, hz]; rfl
  refine SetOf_congr m (fun y => ?_) ?_
  · rw [e, List.any_append]
    congr 1
    by_cases q : y = z
    · rw [q]; simp
    · have : ¬ z = y := fun h => q h.symm
      simp [q, this]
  · show _ = (if (xs.take i).any (· == xs.getD i Str.empty) = true then dcnt xs i else dcnt xs i + 1)
    rw [List.getD_eq_getElem?_getD, hz]
    rfl
section
variable {prog : Program} {w : World} {A : Around} {R : Result → Shared → Prop} {I S : Addr} {fp wr : List Addr} {G : Array GenState → Array GenState → Prop} {i : Nat} {P : Nat → Value → Prop} {St : Nat → Shared → Prop} {xs : List Str} {s : Shared}
/-- an iterator whose item i is the text i of xs -/
structure Turns (prog : Program) (w : World) (A : Around) (I : Addr) (fp wr : List Addr) (G : Array GenState → Array GenState → Prop) (xs : List Str) (P : Nat → Value → Prop) (St : Nat → Shared → Prop) : Prop where
  walks : WalksS prog w A I fp wr G xs.length P St
  texts : ∀ i v, P i v → ∃ z t, xs[i]? = some z ∧ v = .str z t
/-- the loop's code, one round of it -/
theorem round_of (h : wpAny (model prog w) A.in1 (Builtin.«set.update.loop» ⟨[.ref S, .ref I], []⟩) (fun fin s' => match fin with | .done f => R (.ok f) s' | .again c => c.quiet = true ∧ codeAny (model prog w) A c R s') (fun e s' => R (.error e) s') s) :
    codeAny (model prog w) A (.builtin "set.update.loop" ⟨[.ref S, .ref I], []⟩) R s :=
  codeAny_builtin PyProof.Rows.F.entry_set_update_loop (by rw [Around.under_plainId PyProof.Rows.F.plain_set_update_loop _]; exact h)
theorem last_round (W : Turns prog w A.in1 I fp wr G xs P St) (ns : S ∉ wr) (hst : St xs.length s) (hS : Met prog w S xs xs.length s.heap)
    (fin : ∀ s', Moved wr G s s' → Met prog w S xs xs.length s'.heap → R (.ok (.ret .none)) s') : codeAny (model prog w) A (.builtin "set.update.loop" ⟨[.ref S, .ref I], []⟩) R s :=
  round_of (wpAny_bind (W.walks.done s _ _ hst fun s' hm => wpAny_pure (fin s' hm (hS.move fun o e => hm.heap S o ns e))))
theorem next_round (W : Turns prog w A.in1 I fp wr G xs P St) (hf : S ∉ fp) (hn : xs.length < 4000) (hi : i < xs.length) (hst : St i s) (hS : Met prog w S xs i s.heap)
    (go : ∀ s', St (i + 1) s' → Met prog w S xs (i + 1) s'.heap → Moved (S :: wr) G s s' → codeAny (model prog w) A (.builtin "set.update.loop" ⟨[.ref S, .ref I], []⟩) R s') :
    codeAny (model prog w) A (.builtin "set.update.loop" ⟨[.ref S, .ref I], []⟩) R s := by
  refine round_of (wpAny_bind (W.walks.item i s _ _ hi hst fun v s1 hv st1 m1 => ?_))
  obtain ⟨z, t, hz, rfl⟩ := W.texts i v hv
  have hd := dcnt_le xs i
  have S1 := hS.move fun o e => m1.heap S o (fun h => hf (W.walks.sub _ h)) e
  refine wpAny_bind (wpAny_holding (wpAny_holding (wpAny_bind ((PySem.strKind prog w).pyHash (k := z) (strKind_is _ _ _ _) (wpAny_setAddHashed_of (knd := PySem.strKind prog w) (s := { s1 with toks := s1.toks + 1 }) (strKind_is _ _ _ _) rfl S1 (by unfold scanBound; omega) fun h2 sb S2 => ?_)))))
  have keep : ∀ b o, b ≠ S → s1.heap.get? b = some o → h2.get? b = some o := fun b o nb e => by rw [sb.2 b nb]; exact e
  refine wpAny_pure ⟨plainId_quiet PyProof.Rows.F.plain_set_update_loop _, go _ (W.walks.frame _ s1 _ _ st1 (Nat.le_succ _) fun b hb o e => keep b o (fun q => hf (q ▸ hb)) e) (Met.more hz S2) ?_⟩
  exact (m1.mono fun b hb => List.mem_cons_of_mem _ hb).then_heap (Nat.le_succ _) fun b o hb e => keep b o (fun q => hb (q ▸ List.mem_cons_self)) e
theorem rounds (W : Turns prog w A.in1 I fp wr G xs P St) (hf : S ∉ fp) (hn : xs.length < 4000) : ∀ (left i : Nat) (s : Shared), i + left = xs.length → St i s → Met prog w S xs i s.heap →
    (∀ s', Moved (S :: wr) G s s' → Met prog w S xs xs.length s'.heap → R (.ok (.ret .none)) s') → codeAny (model prog w) A (.builtin "set.update.loop" ⟨[.ref S, .ref I], []⟩) R s
  | 0, i, s, e, st, m, fin => by
    have e : i = xs.length := e
    subst e
    exact last_round W (fun h => hf (W.walks.sub _ h)) st m fun s' mv m' => fin s' (mv.mono fun b hb => List.mem_cons_of_mem _ hb) m'
  | left + 1, i, s, e, st, m, fin =>
    next_round W hf hn (by omega) st m fun s1 st1 m1 mv1 => rounds W hf hn left (i + 1) s1 (by omega) st1 m1 fun s2 mv2 m2 => fin s2 (Moved.trans W.walks.gtrans mv1 mv2) m2
end
section
variable {prog : Program} {w : World} {A : Around} {E : Value → Shared → Prop} {s : Shared}
/-- the new set's own beginning: it takes the tuple's texts -/
theorem init_texts {R : Result → Shared → Prop} {S l : Addr} {o : Obj} {items : Array Value} {xs : List Str} {led : Bool} (hh : A.handled = none) (hS : s.heap.get? S = some { cls := .type "set", dict := none, data := .set #[] 0 (.fresh 0 0 led) })
    (ho : s.heap.get? l = some o) (hc : o.cls = .type "tuple") (hd : ∃ nl, o.data = .seq items nl) (hne : l ≠ S) (hi : PyProof.Rows.StrsAre items.toList xs) (hn : xs.length < 4000)
    (fin : ∀ (h' : Heap) (tk : Nat), Met prog w S xs xs.length h' → (∀ b u, b ≠ S → s.heap.get? b = some u → h'.get? b = some u) → R (.ok (.ret .none)) { s with heap := h', toks := tk }) :
    wpAny (model prog w) A.in1 (Builtin.«set.__init__» ⟨[.ref S, .ref l], []⟩) (fun fin s' => match fin with | .done f => R (.ok f) s' | .again c => c.quiet = true ∧ codeAny (model prog w) A c R s') (fun e s' => R (.error e) s') s := by
  have ht : s.heap.IsTuple l items := let ⟨nl, e⟩ := hd; ⟨o, ho, hc, nl, e⟩
  have q1 : s.TypeIs (.ref l) "tuple" := ⟨o, ho, hc⟩
  have q2 := PySem.F.sub_tuple_set
  have q3 := PySem.F.sub_tuple_frozenset
  have q4 : (Value.type "tuple" == Value.type "dict") = false := by decide
  unfold Builtin.«set.__init__» noKeywords Builtin.Frozenset.updateFrom
  generalize ePI : pyIter = PI
  wp_walk
  subst ePI
  refine wpAny_pyIter_tuple ht (wpAny_bind (wpAny_runValue ?_))
  have sz : (s.heap.push { cls := .type "tuple_iterator", data := .fields #[.ref l, .int 0 0] }).objs.size = s.heap.objs.size + 1 := Heap.size_push ..
  have lS : S < s.heap.objs.size := Heap.lt_size hS
  have ll : l < s.heap.objs.size := Heap.lt_size ho
  have len : xs.length = items.size := by rw [← StrsAre.len_eq hi, Array.length_toList]
  have W0 := (Walks.tuple (prog := prog) (w := w) (A := A.in1.in1) (by simpa using hh) s.heap.objs.size l (Nat.ne_of_lt ll) items).toS
  rw [← len] at W0
  have nf : S ∉ [s.heap.objs.size, l] := fun m => by
    rcases List.mem_cons.mp m with e | e
    · exact absurd (e ▸ lS) (Nat.lt_irrefl _)
    · exact hne (List.mem_singleton.mp e).symm
  have M0 : Met prog w S xs 0 (s.heap.push { cls := .type "tuple_iterator", data := .fields #[.ref l, .int 0 0] }) :=
    PyProof.Rows.SetOf_congr ((PyProof.Rows.setObjOf_fresh (knd := PySem.strKind prog w) led).setOf (Heap.get?_push_of_some _ hS) (by unfold scanBound; omega)) (fun _ => rfl) rfl
  refine rounds ⟨W0, fun i v hv => ?_⟩ nf hn xs.length 0 { s with heap := s.heap.push { cls := .type "tuple_iterator", data := .fields #[.ref l, .int 0 0] } } (Nat.zero_add _) ⟨⟨_, Heap.get?_push_size _ rfl, rfl, rfl⟩, ht.push _⟩ M0 fun s2 mv m => ?_
  · obtain ⟨t, e⟩ := strs_at hi i v (by rw [Array.getElem?_toList]; exact hv)
    have hx : i < xs.length := by rw [len]; exact (Array.getElem?_eq_some_iff.mp hv).1
    exact ⟨xs[i], t, List.getElem?_eq_getElem hx, by rw [e, List.getD_eq_getElem?_getD, List.getElem?_eq_getElem hx]; rfl⟩
  · obtain ⟨h2, g2, d2, t2, o2⟩ := s2
    cases (show g2 = s.gens from mv.gens)
    cases (show d2 = s.drawn from mv.drawn)
    cases (show o2 = s.os from mv.os)
    refine wpAny_pure (wpAny_pure (fin h2 t2 m fun b u nb e => mv.heap b u (fun q => ?_) (Heap.get?_push_of_some _ e)))
    rcases List.mem_cons.mp q with q | q
    · exact nb q
    · have := Heap.lt_size e
      rw [List.mem_singleton.mp q] at this
      exact Nat.lt_irrefl _ this
end
section
variable {prog : Program} {w : World} {A : Around} {E : Value → Shared → Prop} {s : Shared}
/-- set(x), over what the new set begins with -/
theorem set_by {x : Value} {Q : Value → Shared → Prop} (go : ∀ led : Bool, wpAny (model prog w) A.in1.in1 (Builtin.«set.__init__» ⟨[.ref s.heap.objs.size, x], []⟩)
      (fun fin s' => match fin with | .done f => wants (fun r s2 => r = .none ∧ s2.TypeIs (.ref s.heap.objs.size) "set" ∧ Q (.ref s.heap.objs.size) s2) E (.ok f) s' | .again c => c.quiet = true ∧ codeAny (model prog w) A.in1 c (wants (fun r s2 => r = .none ∧ s2.TypeIs (.ref s.heap.objs.size) "set" ∧ Q (.ref s.heap.objs.size) s2) E) s')
      (fun e s' => wants (fun r s2 => r = .none ∧ s2.TypeIs (.ref s.heap.objs.size) "set" ∧ Q (.ref s.heap.objs.size) s2) E (.error e) s')
      { s with heap := s.heap.push { cls := .type "set", dict := none, data := .set #[] 0 (.fresh 0 0 led) } }) :
    wpAny (model prog w) A (call (.type "set") [x]) Q E s := by
  have k1 := PySem.F.called_set
  obtain ⟨c, tl, k2⟩ := k1.mro
  have k3 := k1.made
  have k4 := k1.sub
  have k5 := k1.notType
  have k6 := k1.canCreate
  have k7 := PySem.F.typeCall_set_1 x
  refine wpAny_call (codeAny_of_tree (wpAny_pure ⟨Code.quiet_builtin _ (by decide +kernel), codeAny_builtin PySem.F.entry_type_call ?_⟩))
  rw [Around.under_plain (weight_type_call_type "set" [x] []) rfl]
  repeat (any_goals (first | assumption | wp_step))
  refine codeAny_mono (code_set_new_1 x (E := E) (Q₁ := fun y s1 => ∃ led : Bool, y = .ref s.heap.objs.size ∧ s1 = { s with heap := s.heap.push { cls := .type "set", dict := none, data := .set #[] 0 (.fresh 0 0 led) } }) fun led => ⟨led, rfl, rfl⟩) fun r s1 hr => ?_
  match r, hr with
  | .error e, hr => exact hr
  | .ok (.ret y), hr =>
    obtain ⟨led, rfl, rfl⟩ := hr
    have k8 := k1.init.lookup
    have k9 := k1.init.bind (.ref s.heap.objs.size)
    have ty : Shared.TypeIs { s with heap := s.heap.push { cls := .type "set", dict := none, data := .set #[] 0 (.fresh 0 0 led) } } (.ref s.heap.objs.size) "set" := ⟨_, Heap.get?_push_size _ rfl, rfl⟩
    repeat (any_goals (first | assumption | wp_step))
    refine codeAny_mono (codeAny_call_builtin k1.init.plain PySem.F.entry_set_init (check_set_init_1 ty (go led))) fun r2 s2 h2 => ?_
    match r2, h2 with
    | .error e, h2 => exact h2
    | .ok (.ret y), h2 =>
      obtain ⟨rfl, ty2, q⟩ := h2
      repeat (any_goals (first | assumption | wp_step))
/-- set(t) of a tuple of texts -/
theorem set_of_texts {l : Addr} {items : Array Value} {xs : List Str} {Q : Value → Shared → Prop} (hh : A.handled = none) (hl : s.heap.IsTuple l items) (hi : PyProof.Rows.StrsAre items.toList xs) (hn : xs.length < 4000)
    (q : ∀ (h' : Heap) (tk : Nat), Met prog w s.heap.objs.size xs xs.length h' → (∀ b u, s.heap.get? b = some u → h'.get? b = some u) → Q (.ref s.heap.objs.size) { s with heap := h', toks := tk }) :
    wpAny (model prog w) A (call (.type "set") [.ref l]) Q E s := by
  obtain ⟨o, ho, hc, hd⟩ := hl
  have lt := Heap.lt_size ho
  refine set_by fun led => init_texts (A := A.in1) (by simpa using hh) (Heap.get?_push_size _ rfl) (Heap.get?_push_of_some _ ho) hc hd (Nat.ne_of_lt lt) hi hn fun h' tk m k => ⟨rfl, ?_, q h' tk m fun b u e => k b u (Nat.ne_of_lt (Heap.lt_size e)) (Heap.get?_push_of_some _ e)⟩
  exact PySem.Heap.SetOf.typeIs (s := { s with heap := h', toks := tk }) m
end
end TdSet
namespace Td
open PySem PySem.Spec PyProof.Rows L2
section
variable {X : Cx}
/-- len(set(t)), t a tuple of texts -/
def tLenSetT (K : PySem.W.Frag) (t : TE) : TE := fun σ H Q => t σ H fun x H1 => ∃ (l : Addr) (xs : List Str), x = .ref l ∧ SqT K H1 l (xs.map V.str) ∧ xs.length < 4000 ∧ Q (.int (TdSet.dcnt xs xs.length : Nat)) H1
theorem pe_lenSetT {a : Expr} {t : TE} {p p2 q pos : Pos} (hc : X.calm = true) (g1 : Gl X "len") (m1 : X.mg "len" = none) (g2 : Gl X "set") (m2 : X.mg "set" = none) (ha : PE X a t)
    (na : starEach [a] X.env = (false, eval a X.env) :: starEach [] X.env := by rfl) (no : starEach [.Call (.Name "set" p2) [a] [] q] X.env = (false, eval (.Call (.Name "set" p2) [a] [] q) X.env) :: starEach [] X.env := by rfl) :
    PE X (.Call (.Name "len" p) [.Call (.Name "set" p2) [a] [] q] [] pos) (tLenSetT X.K t) := by
  refine ⟨fun pins s σ H Q I h => wpAny_Call_Name_kw (ld_blt I g1 m1 boot_len (PyProof.Rows.callWith_builtin1 (PyProof.Rows.args_cons (wpAny_Call_Name_kw (ld_blt I g2 m2 boot_set (PyProof.Rows.callWith_type1 (PyProof.Rows.args_cons (thn (ha.run pins s σ H _ I h) fun v s1 ⟨x, H1, I1, r1, l, xs, ex, hq, hn, k⟩ => PyProof.Rows.args_nil ?_) na) na rfl))) no) no rfl))⟩
  subst ex
  cases r1
  obtain ⟨us, r, tp, _⟩ := I1.tuple hq
  refine TdSet.set_of_texts (I1.ok.hd hc) tp (xs := xs) (by simpa using strsAre_of r) hn fun h' tk m kp => PyProof.Rows.args_nil ?_
  have J : Inv X pins σ H1 { s1 with heap := h', toks := tk } := I1.kept kp
  have dl := TdSet.dcnt_le xs xs.length
  obtain ⟨o, es, ep, tb, e1, e2, e3, _, _, _, e7, e8⟩ := m
  exact call_len_set e1 e2 e3 e7 (by rw [e8]; omega) ⟨.int (TdSet.dcnt xs xs.length : Nat), H1, J.tok _, ⟨_, by rw [e8]⟩, k⟩
end
/-- xs[i] op= e on a list -/
def rGetL : V → V → Hp → VK → Prop := fun o i H Q => ∃ p xs k v, o = .ref p ∧ i = .int k ∧ H p = some (.lst xs) ∧ atI xs k = some v ∧ Q v H
end Td
namespace Td
open PySem PySem.Spec PyProof.Rows L2
section
variable {X : Cx}
/-! ### a written dict, asked by .get -/
def KTab (K : PySem.W.Frag) (w : World) (a : Addr) : Prop :=
  ∃ es n, K.lookup a = some ⟨.type "dict", none, .dict es n, #[]⟩ ∧ PySem.W.KeysLit w.params es.toList ∧ (a == sysModules) = false
def tKGet (K : PySem.W.Frag) (w : World) (td ty : TE) : TE := fun σ H Q => td σ H fun x H1 => ∃ a, x = .ref a ∧ KTab K w a ∧
  ty σ H1 fun y H2 => ∃ z, y = .str z ∧ ((∃ v, KDct K w a z v ∧ Q v H2) ∨ (PySem.W.nsIn K a z = some none ∧ Q .non H2))
theorem pe_kget {o e : Expr} {td ty : TE} {apos cpos : Pos} (ho : PE X o td) (he : PE X e ty) (m : M1 X o "get" apos e cpos) :
    PE X (.Call (.Attribute o "get" apos) [e] [] cpos) (tKGet X.K X.w td ty) := by
  refine ⟨fun pins s σ H Q I h => ?_⟩
  refine wpAny_Call_method m.base m.few m.line PySem.F.plainAttrs_dict PySem.F.slot_dict_get PySem.F.type_dict_get
    (thn (ho.run pins s σ H _ I h) fun u s1 ⟨x, H1, I1, rx, a, ex, ⟨es, n, hl, hk, low⟩, q1⟩ => ?_)
  subst ex
  obtain rfl : u = Value.ref a := rx
  have hm := PySem.W.mapOf_K (prog := X.prog) (w := X.w) I1.kIn hl hk
  refine ⟨hm.typeIs, hm.noDict, ?_⟩
  rw [m.trees]
  refine Calls.callWith_builtin rfl (Calls.evalArgs_plain (Calls.spliced_cons
    (thn (he.run pins s1 σ H1 _ I1 q1) fun iv s2 ⟨y, H2, I2, ry, z, ey, q2⟩ => Calls.spliced_nil ?_)))
  subst ey
  obtain ⟨t, rfl⟩ := ry
  have hm2 := PySem.W.mapOf_K (prog := X.prog) (w := X.w) I2.kIn hl hk
  rcases q2 with ⟨v, ⟨es', n', u0, hl', hk', e0, ru⟩, q⟩ | ⟨e0, q⟩
  · refine call_meetsIn PySem.F.slot_dict_get hm2.typeIs PySem.F.entry_dict_get (PySem.F.args_dict_get_2 _ _)
      (meets_dict_get (strKind X.prog X.w) a (strKind_is X.prog X.w z t) low) ⟨_, hm2, ?_⟩
    have := PySem.W.find_K hl e0
    rw [this]
    exact ⟨v, H2, I2.tok _, ru, q⟩
  · refine call_meetsIn PySem.F.slot_dict_get hm2.typeIs PySem.F.entry_dict_get (PySem.F.args_dict_get_2 _ _)
      (meets_dict_get (strKind X.prog X.w) a (strKind_is X.prog X.w z t) low) ⟨_, hm2, ?_⟩
    have := PySem.W.find_K hl e0
    rw [this]
    exact ⟨.non, H2, I2.tok _, rfl, q⟩

/-! ### xs[i] of a list, by values -/
def rGetLi (K : PySem.W.Frag) : V → V → Hp → VK → Prop := fun o i H Q => ∃ (p : Addr) (xs : List V) (k : Nat) (v : V), o = .ref p ∧ i = .int (k : Nat) ∧ SqL K H p xs ∧ xs[k]? = some v ∧ Q v H
theorem get_list : PGet X (rGetLi X.K) := by
  intro pins s σ H o i ov iv Q I ro ri h
  obtain ⟨p, xs, k, v, rfl, rfl, hp, hv, q⟩ := h
  obtain ⟨its, r, pl, hz⟩ := I.list hp
  obtain rfl : ov = Value.ref p := ro
  obtain ⟨t, rfl⟩ := ri
  obtain ⟨w, ew, rw'⟩ := r.get hv
  have hn := line63
  have hk := (List.getElem?_eq_some_iff.mp hv).1
  have fin : EP X pins σ Q w s := ⟨v, H, I, rw', q⟩
  exact wpAny_getItem_list pl.isList (by omega) (by omega) (by rw [Int.toNat_natCast, List.getElem?_toArray]; exact ew) fin
end
/-! ### enumerate of a tuple -/
def IteT (K : PySem.W.Frag) (a : Addr) : It :=
  ⟨fun i H => ∃ (xs : List V) (x : V), SqT K H a xs ∧ xs[i]? = some x,
   fun i H v H' => ∃ T x, v = .ref T ∧ H T = none ∧ H' = upd H T (.tup [.int (i : Nat), x]) ∧ ∀ xs, SqT K H a xs → xs[i]? = some x,
   fun i H => ∃ xs : List V, SqT K H a xs ∧ xs.length = i⟩
theorem turn_enumT {P : Program} {w : World} {K : PySem.W.Frag} {elts : List Expr} {kk : Nat} {tpos : Pos} (a e it : Addr) :
    Turn P w K (.Tuple elts kk tpos) (IteT K a) [e, it] e
      (fun i h => (∃ old, IsEnum h e it ((i : Nat) : Int) old) ∧ h.IsTupleIter it a i ∧ e ≠ it) where
  mem := by simp
  obj := fun i h st b hb => by
    obtain ⟨⟨old, he⟩, ⟨o, ho, hc, hd⟩, _⟩ := st
    have e' : b = e ∨ b = it := by simpa using hb
    rcases e' with z | z
    · subst z; exact ⟨_, he, fun v q => nomatch q⟩
    · subst z; exact ⟨o, ho, fun v q => by rw [hd] at q; cases q⟩
  keep := fun i h h' st k => by
    obtain ⟨⟨old, he⟩, hi, hne⟩ := st
    exact ⟨⟨old, k e (by simp) _ he⟩, hi.at fun o q => k it (by simp) o q, hne⟩
  item := by
    intro X hP hw hK hc i pins s σ H E I hf st hg
    subst hP hw hK
    obtain ⟨⟨old, he⟩, hit, hne⟩ := st
    obtain ⟨xs, x, hq, hx⟩ := hg
    obtain ⟨its, rv, p, hz⟩ := I.tuple hq
    obtain ⟨u, hu, ru⟩ := rv.get hx
    have hel : e < s.heap.objs.size := Heap.lt_size he
    have hil : it < s.heap.objs.size := by obtain ⟨_, q, _⟩ := hit; exact Heap.lt_size q
    have hai : a ≠ it := fun z => by
      obtain ⟨o1, g1, c1, _⟩ := hit
      obtain ⟨o2, g2, c2, _⟩ := p
      rw [z, g1] at g2
      cases g2
      rw [c1] at c2
      exact absurd c2 (by decide)
    have hae : a ≠ e := fun z => by
      obtain ⟨o2, g2, c2, _⟩ := p
      rw [z, show s.heap.get? e = some _ from he] at g2
      cases g2
      change Value.type "enumerate" = Value.type "tuple" at c2
      exact absurd c2 (by decide)
    have hh : X.A.in1.handled = none := by simp [I.ok.hd hc]
    have D := Draws.tuple (prog := X.prog) (w := X.w) hh it a hai its.toArray
    have hlt : i < its.toArray.size := by
      rw [List.size_toArray, ← rv.length]
      exact (List.getElem?_eq_some_iff.mp hx).1
    refine wpAny_pyNext_enum_itemD D he ⟨hit, p⟩ hlt hne (by simp [hne, Ne.symm hae]) fun y h' tk hy ho hit' hT hsz hk => ?_
    have hyu : y = u := by
      have : its.toArray[i]? = some y := hy
      rw [List.getElem?_toArray, hu] at this
      exact (Option.some.inj this).symm
    subst hyu
    refine ⟨_, rfl, wpAny_letOwnedTupleGo_enum (s := { s with heap := h', toks := tk + 1 }) ho fun h2 he2 sb => ?_⟩
    have hT2 : h2.get? s.heap.objs.size = some { cls := .type "tuple", data := .seq #[.int i tk, y] } :=
      (sb.2 _ (Nat.ne_of_gt hel)).trans hT
    have new : ObjOk X.prog X.w (upd H s.heap.objs.size (.tup [.int (i : Nat), x])) h2 s.heap.objs.size (.tup [.int (i : Nat), x]) :=
      ⟨by show 2 ≤ sizeLine; decide, [.int i tk, y], .cons ⟨_, rfl⟩ (.cons ru .nil), ⟨_, hT2, rfl, _, rfl⟩⟩
    have I1 : L2.Inv X pins σ (upd H s.heap.objs.size (.tup [.int (i : Nat), x])) { s with heap := h2, toks := tk + 1 } :=
      I.turnedNew (ch := [e, it]) (fun b ob hb q => (sb.2 b (fun z => hb (by simp [z]))).trans
        (hk b ob (fun z => hb (by simp [z])) (fun z => hb (by simp [z])) q)) hf (Nat.le_refl _) new
    refine ⟨.ref s.heap.objs.size, _, I1, rfl, ⟨_, x, rfl, I.hok.fresh (Nat.le_refl _), rfl, fun ys hy => by rw [I.tuple_inj hy hq]; exact hx⟩,
      ⟨⟨y, ?_⟩, hit'.1.at fun o q => (sb.2 it (Ne.symm hne)).trans q, hne⟩, fun b hb => ?_⟩
    · have e1 : ((i + 1 : Nat) : Int) = (i : Int) + 1 := by omega
      rw [e1]; exact he2
    · have hb' : b < s.heap.objs.size := by
        have e' : b = e ∨ b = it := by simpa using hb
        rcases e' with z | z
        · subst z; exact hel
        · subst z; exact hil
      rw [upd_ne (Nat.ne_of_lt hb')]
      exact (hf b hb).1
  done := by
    intro X hP hw hK hc i pins s σ H E I hf st hg
    subst hP hw hK
    obtain ⟨⟨old, he⟩, hit, hne⟩ := st
    obtain ⟨xs, hq, hx⟩ := hg
    obtain ⟨its, rv, p, hz⟩ := I.tuple hq
    obtain ⟨f0, f1, f2, f3, f4, f5⟩ := hf it (by simp)
    have hai : a ≠ it := fun z => by
      obtain ⟨o1, g1, c1, _⟩ := hit
      obtain ⟨o2, g2, c2, _⟩ := p
      rw [z, g1] at g2
      cases g2
      rw [c1] at c2
      exact absurd c2 (by decide)
    have hh : X.A.in1.handled = none := by simp [I.ok.hd hc]
    have D := Draws.tuple (prog := X.prog) (w := X.w) hh it a hai its.toArray
    have hn : its.toArray.size = i := by rw [List.size_toArray, ← rv.length]; exact hx
    refine wpAny_pyNext_enum_endD D he ⟨by rw [hn]; exact hit, p⟩ fun h' eb => ⟨rfl, I.turned (t' := s.toks) (fun b o hb q => eb b o hb q) f0 f1 f3 f4 f5⟩
  self := fun A i s Q E st h => let ⟨⟨_, he⟩, _⟩ := st; wpAny_pyIter_enum he h

/-- enumerate(t) made -/
theorem meets_enumT {v : Value} {o : Obj} {H : Heap → Prop} (B : Begins v o H) :
    Meets (Builtin.«enumerate.__new__» ⟨[.type "enumerate", v], []⟩) (fun _ R s => H s.heap ∧
      R (.ok (.ret (.ref (s.heap.push o).objs.size)))
        { s with heap := (s.heap.push o).push { cls := .type "enumerate", data := .fields #[.none, .bool false, .ref s.heap.objs.size, rawInt 0, .none, .none] } }) :=
  .of_wp fun prog w A R s h => by
    obtain ⟨hp, g, d, tk, os⟩ := s; obtain ⟨h1, h⟩ := h
    have hsub := sub_enumerate
    have q1 : ∀ {A' : Around} {E : Value → Shared → Prop} {Q : Value → Shared → Prop}, Q (.ref hp.objs.size) ⟨hp.push o, g, d, tk, os⟩ →
        wpAny (model prog w) A' (pyIter v) Q E ⟨hp, g, d, tk, os⟩ := fun q => B.iter prog w _ _ ⟨hp, g, d, tk, os⟩ _ h1 q
    wp_walk using q1
    refine wpAny_stack_any fun st => wpAny_pure ?_
    split
    · rename_i c _ _ _ _ _
      cases (c == Value.type "enumerate")
      · wp_walk using q1
        exact ⟨_, rfl, h⟩
      · wp_walk using q1
        exact ⟨_, rfl, h⟩
    · wp_walk using q1
      exact ⟨_, rfl, h⟩
def iEnumT (K : PySem.W.Frag) (ta : TA) : TI := fun σ H R => ta σ H fun vs H1 => ∃ a xs, vs = [.ref a] ∧ SqT K H1 a xs ∧ R (IteT K a) H1
theorem pi_enumT {X : Cx} {e : Expr} {ta : TA} {p pos tpos : Pos} {elts : List Expr} {kk : Nat} (hg : Gl X "enumerate") (hm : X.mg "enumerate" = none)
    (ha : PA X [e] ta) (hs : starEach [e] X.env = [(false, eval e X.env)] := by rfl) :
    PI X (.Tuple elts kk tpos) (.Call (.Name "enumerate" p) [e] [] pos) (iEnumT X.K ta) := by
  refine ⟨fun pins s σ H R I h => ?_⟩
  refine Call_ (ld_blt I hg hm boot_enumerate (PyProof.Rows.callWith_type1 (thn (ha.run pos pins s σ H _ I h) fun us s1 ⟨vs, H1, I1, r1, q1⟩ => ?_) hs rfl))
  obtain ⟨a, xs, ex, hq, q⟩ := q1
  subst ex
  cases r1 with
  | cons r rr =>
    cases rr
    cases r
    obtain ⟨its, rv, p', hz⟩ := I1.tuple hq
    refine callType_new F.called_enumerate (by decide) (F.typeCall_enumerate_1 _) (F.newCall_enumerate_1 _) (fun obj => F.args_object_init_2 obj _)
      F.entry_enumerate_new (meets_enumT (begins_tuple a its.toArray)) ⟨p', ?_⟩
    have z1 : (s1.heap.push { cls := .type "tuple_iterator", data := .fields #[.ref a, .int 0 0] }).objs.size = s1.heap.objs.size + 1 := Heap.size_push ..
    show _ ∧ _
    rw [z1]
    have he : IsEnum ((s1.heap.push { cls := .type "tuple_iterator", data := .fields #[.ref a, .int 0 0] }).push
        { cls := .type "enumerate", data := .fields #[.none, .bool false, .ref s1.heap.objs.size, rawInt 0, .none, .none] })
        (s1.heap.objs.size + 1) s1.heap.objs.size 0 .none := by
      have := Heap.get?_push_size (s1.heap.push { cls := .type "tuple_iterator", data := .fields #[.ref a, .int 0 0] })
        (o := { cls := .type "enumerate", data := .fields #[.none, .bool false, .ref s1.heap.objs.size, rawInt 0, .none, .none] }) rfl
      rw [z1] at this; exact this
    refine ⟨⟨_, he, rfl⟩, ?_⟩
    refine wpAny_pyIter_enum he ?_
    have I2 : L2.Inv X pins σ H1 ⟨(s1.heap.push { cls := .type "tuple_iterator", data := .fields #[.ref a, .int 0 0] }).push { cls := .type "enumerate", data := .fields #[.none, .bool false, .ref s1.heap.objs.size, rawInt 0, .none, .none] }, s1.gens, s1.drawn, s1.toks, s1.os⟩ :=
      I1.kept (t' := s1.toks) fun b o x => Heap.get?_push_of_some _ (Heap.get?_push_of_some _ x)
    refine ⟨s1.heap.objs.size + 1, [s1.heap.objs.size + 1, s1.heap.objs.size], _, _, H1, rfl, I2, turn_enumT a (s1.heap.objs.size + 1) s1.heap.objs.size,
      ⟨⟨.none, he⟩, ⟨_, Heap.get?_push_of_some _ (Heap.get?_push_size _ rfl), rfl, rfl⟩, Nat.succ_ne_self _⟩, fun b hb => ?_, q⟩
    have e' : b = s1.heap.objs.size + 1 ∨ b = s1.heap.objs.size := by simpa using hb
    have hle : s1.heap.objs.size ≤ b := by
      rcases e' with z | z
      · rw [z]; exact Nat.le_succ _
      · rw [z]; exact Nat.le_refl _
    exact I1.fpOk hle (I1.hok.fresh hle)
end Td
/-! Data: what stays, data in the heap, names, rows. -/
namespace Td
open PySem PySem.Spec PyProof.Rows L2

/-! ### what stays while the object at st changes -/
def Keep (st : Addr) (H H' : Hp) : Prop := ∀ b o, b ≠ st → H b = some o → H' b = some o
theorem Keep.refl (st : Addr) (H : Hp) : Keep st H H := fun _ _ _ h => h
theorem Keep.trans {st : Addr} {H H1 H2 : Hp} (a : Keep st H H1) (b : Keep st H1 H2) : Keep st H H2 := fun c o n h => b c o n (a c o n h)
theorem Keep.upd {st : Addr} {H : Hp} {o : HO} : Keep st H (upd H st o) := fun b u n h => by rw [upd_ne n]; exact h
theorem Keep.new {st p : Addr} {H : Hp} {o : HO} (h : H p = none) : Keep st H (L2.upd H p o) := fun b u n e => by
  rw [upd_ne (ne_of_none e h)]; exact e
theorem Keep.free {st p : Addr} {H H' : Hp} (k : Keep st H H') (n : p ≠ st) (h : H' p = none) : H p = none := by
  cases e : H p with
  | none => rfl
  | some o => rw [k p o n e] at h; cases h
/-- an object that was not there at first is changed -/
theorem Keep.own {st p : Addr} {H H' : Hp} {o : HO} (k : Keep st H H') (h : H p = none) : Keep st H (L2.upd H' p o) := fun b u nb e => by
  rw [upd_ne (ne_of_none e h)]; exact k b u nb e
theorem Same.new {H : Hp} {p : Addr} (h : H p = none) (o : HO) : Same H (upd H p o) := fun b u e => by
  rw [upd_ne (ne_of_none e h)]; exact e
theorem Same.keep {H H' : Hp} (h : Same H H') (st : Addr) : Keep st H H' := fun b o _ e => h b o e

/-! ### immutable and mutable data, away from st -/
section
variable {K : PySem.W.Frag} {H H' : Hp} {a : Addr} {xs : List V}
theorem SqT.same (s : Same H H') (h : SqT K H a xs) : SqT K H' a xs := by
  rcases h with (h | ⟨o, h⟩) | h
  · exact .inl (.inl (s _ _ h))
  · exact .inl (.inr ⟨o, s _ _ h⟩)
  · exact .inr h
theorem SqL.same (s : Same H H') (h : SqL K H a xs) : SqL K H' a xs := s.seq h
theorem SqT.keep {st : Addr} (s : Keep st H H') (n : a ≠ st) (h : SqT K H a xs) : SqT K H' a xs := by
  rcases h with (h | ⟨o, h⟩) | h
  · exact .inl (.inl (s _ _ n h))
  · exact .inl (.inr ⟨o, s _ _ n h⟩)
  · exact .inr h
theorem SqL.keep {st : Addr} (s : Keep st H H') (n : a ≠ st) (h : SqL K H a xs) : SqL K H' a xs := by
  rcases h with (h | ⟨o, h⟩) | h
  · exact .inl (.inl (s _ _ n h))
  · exact .inl (.inr ⟨o, s _ _ n h⟩)
  · exact .inr h
end
mutual
/-- data at a value, none of its objects at st -/
inductive Dn (K : PySem.W.Frag) (st : Addr) (H : Hp) : V → PyData → Prop
  | non : Dn K st H .non .none
  | bl (b : Bool) : Dn K st H (.bl b) (.bool b)
  | int (i : Int) : Dn K st H (.int i) (.int i)
  | str (x : Str) : Dn K st H (.str x) (.str x)
  | lst {a : Addr} {xs : List V} {ds : List PyData} : a ≠ st → SqL K H a xs → DnAll K st H xs ds → Dn K st H (.ref a) (.list ds)
  | tup {a : Addr} {xs : List V} {ds : List PyData} : a ≠ st → SqT K H a xs → DnAll K st H xs ds → Dn K st H (.ref a) (.tuple ds)
inductive DnAll (K : PySem.W.Frag) (st : Addr) (H : Hp) : List V → List PyData → Prop
  | nil : DnAll K st H [] []
  | cons {v : V} {vs : List V} {d : PyData} {ds : List PyData} : Dn K st H v d → DnAll K st H vs ds → DnAll K st H (v :: vs) (d :: ds)
end
section
variable {K : PySem.W.Frag} {H H' : Hp} {st : Addr}
mutual
theorem Dn.keep (s : Keep st H H') : ∀ {v : V} {d : PyData}, Dn K st H v d → Dn K st H' v d
  | _, _, .non => .non
  | _, _, .bl b => .bl b
  | _, _, .int b => .int b
  | _, _, .str b => .str b
  | _, _, .lst n q r => .lst n (SqL.keep s n q) (DnAll.keep s r)
  | _, _, .tup n q r => .tup n (SqT.keep s n q) (DnAll.keep s r)
theorem DnAll.keep (s : Keep st H H') : ∀ {v : List V} {d : List PyData}, DnAll K st H v d → DnAll K st H' v d
  | _, _, .nil => .nil
  | _, _, .cons a b => .cons (Dn.keep s a) (DnAll.keep s b)
end
mutual
theorem Dn.dp : ∀ {v : V} {d : PyData}, Dn K st H v d → Dp K H v d
  | _, _, .non => .non
  | _, _, .bl b => .bl b
  | _, _, .int b => .int b
  | _, _, .str b => .str b
  | _, _, .lst n q r => .lst q (DnAll.dp r)
  | _, _, .tup n q r => .tup q (DnAll.dp r)
theorem DnAll.dp : ∀ {v : List V} {d : List PyData}, DnAll K st H v d → DpAll K H v d
  | _, _, .nil => .nil
  | _, _, .cons a b => .cons (Dn.dp a) (DnAll.dp b)
end
mutual
theorem Dp.same (s : Same H H') : ∀ {v : V} {d : PyData}, Dp K H v d → Dp K H' v d
  | _, _, .non => .non
  | _, _, .bl b => .bl b
  | _, _, .int b => .int b
  | _, _, .str b => .str b
  | _, _, .lst q r => .lst (SqL.same s q) (DpAll.same s r)
  | _, _, .tup q r => .tup (SqT.same s q) (DpAll.same s r)
theorem DpAll.same (s : Same H H') : ∀ {v : List V} {d : List PyData}, DpAll K H v d → DpAll K H' v d
  | _, _, .nil => .nil
  | _, _, .cons a b => .cons (Dp.same s a) (DpAll.same s b)
end
theorem DpAll.length : ∀ {vs : List V} {ds : List PyData}, DpAll K H vs ds → vs.length = ds.length
  | _, _, .nil => rfl
  | _, _, .cons _ r => by rw [List.length_cons, List.length_cons, DpAll.length r]
theorem DpAll.get : ∀ {vs : List V} {ds : List PyData} {i : Nat} {v : V}, DpAll K H vs ds → vs[i]? = some v → ∃ d, ds[i]? = some d ∧ Dp K H v d
  | _, _, _, _, .nil, h => by simp at h
  | _, _, 0, _, .cons a _, h => by simp at h; subst h; exact ⟨_, rfl, a⟩
  | _, _, i + 1, v, .cons _ r, h => by
    obtain ⟨d, h1, h2⟩ := DpAll.get (i := i) (v := v) r (by simpa using h)
    exact ⟨d, by simpa using h1, h2⟩
theorem DpAll.append : ∀ {vs ws : List V} {ds es : List PyData}, DpAll K H vs ds → DpAll K H ws es → DpAll K H (vs ++ ws) (ds ++ es)
  | _, _, _, _, .nil, h => h
  | _, _, _, _, .cons a r, h => .cons a (DpAll.append r h)
theorem DpAll.strs (zs : List Str) : DpAll K H (zs.map V.str) (zs.map PyData.str) := by
  induction zs with
  | nil => exact .nil
  | cons z r ih => exact .cons (.str z) ih
theorem DnAll.strs (zs : List Str) : DnAll K st H (zs.map V.str) (zs.map PyData.str) := by
  induction zs with
  | nil => exact .nil
  | cons z r ih => exact .cons (.str z) ih
theorem DnAll.append : ∀ {vs ws : List V} {ds es : List PyData}, DnAll K st H vs ds → DnAll K st H ws es → DnAll K st H (vs ++ ws) (ds ++ es)
  | _, _, _, _, .nil, h => h
  | _, _, _, _, .cons a r, h => .cons a (DnAll.append r h)
theorem DnAll.length : ∀ {vs : List V} {ds : List PyData}, DnAll K st H vs ds → vs.length = ds.length
  | _, _, .nil => rfl
  | _, _, .cons _ r => by rw [List.length_cons, List.length_cons, DnAll.length r]
theorem DnAll.get : ∀ {vs : List V} {ds : List PyData} {i : Nat} {v : V}, DnAll K st H vs ds → vs[i]? = some v → ∃ d, ds[i]? = some d ∧ Dn K st H v d
  | _, _, _, _, .nil, h => by simp at h
  | _, _, 0, _, .cons a _, h => by simp at h; subst h; exact ⟨_, rfl, a⟩
  | _, _, i + 1, v, .cons _ r, h => by
    obtain ⟨d, h1, h2⟩ := DnAll.get (i := i) (v := v) r (by simpa using h)
    exact ⟨d, by simpa using h1, h2⟩
/-- a tuple's value -/
theorem Dp.tup_inv {v : V} {ds : List PyData} (h : Dp K H v (.tuple ds)) : ∃ a xs, v = .ref a ∧ SqT K H a xs ∧ DpAll K H xs ds := by
  cases h with
  | tup q r => exact ⟨_, _, rfl, q, r⟩
theorem Dn.tup_inv {v : V} {ds : List PyData} (h : Dn K st H v (.tuple ds)) : ∃ a xs, v = .ref a ∧ a ≠ st ∧ SqT K H a xs ∧ DnAll K st H xs ds := by
  cases h with
  | tup n q r => exact ⟨_, _, rfl, n, q, r⟩
theorem Dp.str_inv {v : V} {z : Str} (h : Dp K H v (.str z)) : v = .str z := by cases h; rfl
theorem Dn.str_inv {v : V} {z : Str} (h : Dn K st H v (.str z)) : v = .str z := by cases h; rfl
theorem DpAll.strs_inv : ∀ {vs : List V} {zs : List Str}, DpAll K H vs (zs.map PyData.str) → vs = zs.map V.str
  | vs, [], h => by cases h; rfl
  | vs, z :: zs, h => by
    cases h with
    | cons a r => cases a; rw [DpAll.strs_inv r]; rfl
theorem DnAll.strs_inv : ∀ {vs : List V} {zs : List Str}, DnAll K st H vs (zs.map PyData.str) → vs = zs.map V.str
  | vs, [], h => by cases h; rfl
  | vs, z :: zs, h => by
    cases h with
    | cons a r => cases a; rw [DnAll.strs_inv r]; rfl
theorem DnAll.of_dp_new {p : Addr} {o : HO} {vs : List V} {ds : List PyData} (h : DnAll K st H vs ds) (hp : H p = none) : DnAll K st (upd H p o) vs ds := DnAll.keep (Keep.new hp) h
theorem Dn.new {p : Addr} {o : HO} {v : V} {d : PyData} (h : Dn K st H v d) (hp : H p = none) : Dn K st (upd H p o) v d := Dn.keep (Keep.new hp) h
end

/-! ### names -/
def lowc (c : Nat) : Bool := decide (97 ≤ c) && decide (c ≤ 122)
def isNm (z : Str) : Bool := decide (1 ≤ z.length) && decide (z.length ≤ 8) && z.cps.toList.all lowc

/-! ### rows -/
inductive Row where
  | rd (pk : Bool) (c s : Str)
  | put (s w : Str)
  | give (s : Str)
  | say (s : Str)
  | wr (c s : Str)
  | ite (s w : Str) (y n : List Row)
mutual
def rowD : Row → PyData
  | .rd pk c s => .tuple [.str (if pk then "peek" else "read"), .str c, .str s]
  | .put s w => .tuple [.str "put", .str s, .str w]
  | .give s => .tuple [.str "give", .str s]
  | .say s => .tuple [.str "say", .str s]
  | .wr c s => .tuple [.str "write", .str c, .str s]
  | .ite s w y n => .tuple [.str "if", .str s, .str w, .tuple (rowsD y), .tuple (rowsD n)]
def rowsD : List Row → List PyData
  | [] => []
  | r :: rs => rowD r :: rowsD rs
end
theorem rowsD_length : ∀ rs, (rowsD rs).length = rs.length
  | [] => by unfold rowsD; rfl
  | r :: rs => by unfold rowsD; rw [List.length_cons, List.length_cons, rowsD_length rs]
theorem rowsD_append : ∀ rs ts, rowsD (rs ++ ts) = rowsD rs ++ rowsD ts
  | [], ts => by simp [rowsD]
  | r :: rs, ts => by simp only [List.cons_append, rowsD, rowsD_append rs ts]
theorem rowsD_get : ∀ {rs : List Row} {i : Nat} {r : Row}, rs[i]? = some r → (rowsD rs)[i]? = some (rowD r)
  | [], i, r, h => by simp at h
  | x :: rs, 0, r, h => by simp at h; subst h; unfold rowsD; rfl
  | x :: rs, i + 1, r, h => by
    unfold rowsD
    rw [List.getElem?_cons_succ]
    exact rowsD_get (by simpa using h)
mutual
def cnt : Row → Nat
  | .ite _ _ y n => 1 + cnts y + cnts n
  | .rd .. => 1
  | .put .. => 1
  | .give .. => 1
  | .say .. => 1
  | .wr .. => 1
def cnts : List Row → Nat
  | [] => 0
  | r :: rs => cnt r + cnts rs
end
theorem cnts_append : ∀ rs ts, cnts (rs ++ ts) = cnts rs + cnts ts
  | [], ts => by simp [cnts]
  | r :: rs, ts => by
    simp only [List.cons_append, cnts, cnts_append rs ts]; omega
/-- what the rows of a body may be and may name -/
structure Sc where
  eff : Bool
  words : List Str
  sources : List Str
  readable : List Str
mutual
def okR (S : Sc) (dep : Nat) : Row → Prop
  | .rd pk c s => (pk = true → S.eff = true) ∧ c ∈ S.readable ∧ isNm s = true
  | .put s w => isNm s = true ∧ w ∈ S.words
  | .give s => S.eff = false ∧ isNm s = true
  | .say s => S.eff = true ∧ isNm s = true
  | .wr c s => S.eff = true ∧ c ∈ S.sources ∧ isNm s = true
  | .ite s w y n => dep ≤ 3 ∧ isNm s = true ∧ w ∈ S.words ∧ okRs S (dep + 1) y ∧ okRs S (dep + 1) n
def okRs (S : Sc) (dep : Nat) : List Row → Prop
  | [] => True
  | r :: rs => okR S dep r ∧ okRs S dep rs
end
theorem okRs_append {S : Sc} {dep : Nat} : ∀ {rs ts}, okRs S dep rs → okRs S dep ts → okRs S dep (rs ++ ts)
  | [], ts, _, h => h
  | r :: rs, ts, h, h2 => by
    unfold okRs at h
    show okRs S dep (r :: (rs ++ ts))
    unfold okRs
    exact ⟨h.1, okRs_append h.2 h2⟩
theorem okRs_get {S : Sc} {dep : Nat} : ∀ {rs : List Row} {i : Nat} {r : Row}, okRs S dep rs → rs[i]? = some r → okR S dep r
  | [], i, r, _, h => by simp at h
  | x :: rs, 0, r, ok, h => by
    unfold okRs at ok
    simp at h; subst h; exact ok.1
  | x :: rs, i + 1, r, ok, h => by
    unfold okRs at ok
    exact okRs_get ok.2 (by simpa using h)
theorem okRs_one {S : Sc} {dep : Nat} {r : Row} (h : okR S dep r) : okRs S dep [r] := by
  unfold okRs
  exact ⟨h, by unfold okRs; trivial⟩
end Td
namespace Td
open PySem PySem.Spec PyProof.Rows L2
/-- an if whose test is known -/
theorem if_true_of {c : Bool} {A B : Prop} (hc : c = true) (h : A) : if c = true then A else B := by
  rw [if_pos hc]; exact h
theorem if_false_of {c : Bool} {A B : Prop} (hc : c = false) (h : B) : if c = true then A else B := by
  rw [hc, if_neg Bool.false_ne_true]; exact h
def rowTag : Row → Str
  | .rd pk _ _ => if pk then "peek" else "read"
  | .put .. => "put"
  | .give .. => "give"
  | .say .. => "say"
  | .wr .. => "write"
  | .ite .. => "if"
def isIte : Row → Bool
  | .ite .. => true
  | _ => false
theorem tag_if (r : Row) : decide (V.str (rowTag r) = V.str "if") = isIte r := by
  cases r with
  | rd pk c s =>
    cases pk
    · show decide (V.str "read" = V.str "if") = false; decide +kernel
    · show decide (V.str "peek" = V.str "if") = false; decide +kernel
  | put => show decide (V.str "put" = V.str "if") = false; decide +kernel
  | give => show decide (V.str "give" = V.str "if") = false; decide +kernel
  | say => show decide (V.str "say" = V.str "if") = false; decide +kernel
  | wr => show decide (V.str "write" = V.str "if") = false; decide +kernel
  | ite => show decide (V.str "if" = V.str "if") = true; decide +kernel
section
variable {K : PySem.W.Frag} {H H' : Hp} {st : Addr} {v : V}
/-- a row's tuple -/
theorem row_at {r : Row} (h : Dp K H v (rowD r)) : ∃ a xs, v = .ref a ∧ SqT K H a xs ∧ xs[0]? = some (.str (rowTag r)) := by
  cases r with
  | rd pk c s =>
    obtain ⟨a, xs, rfl, hS, hD⟩ := Dp.tup_inv (by unfold rowD at h; exact h)
    cases hD with | cons h1 _ => cases h1; exact ⟨a, _, rfl, hS, rfl⟩
  | put s w =>
    obtain ⟨a, xs, rfl, hS, hD⟩ := Dp.tup_inv (by unfold rowD at h; exact h)
    cases hD with | cons h1 _ => cases h1; exact ⟨a, _, rfl, hS, rfl⟩
  | give s =>
    obtain ⟨a, xs, rfl, hS, hD⟩ := Dp.tup_inv (by unfold rowD at h; exact h)
    cases hD with | cons h1 _ => cases h1; exact ⟨a, _, rfl, hS, rfl⟩
  | say s =>
    obtain ⟨a, xs, rfl, hS, hD⟩ := Dp.tup_inv (by unfold rowD at h; exact h)
    cases hD with | cons h1 _ => cases h1; exact ⟨a, _, rfl, hS, rfl⟩
  | wr c s =>
    obtain ⟨a, xs, rfl, hS, hD⟩ := Dp.tup_inv (by unfold rowD at h; exact h)
    cases hD with | cons h1 _ => cases h1; exact ⟨a, _, rfl, hS, rfl⟩
  | ite s w y n =>
    obtain ⟨a, xs, rfl, hS, hD⟩ := Dp.tup_inv (by unfold rowD at h; exact h)
    cases hD with | cons h1 _ => cases h1; exact ⟨a, _, rfl, hS, rfl⟩
theorem DpAll.inv2 {xs : List V} {d1 d2 : PyData} (h : DpAll K H xs [d1, d2]) : ∃ v1 v2, xs = [v1, v2] ∧ Dp K H v1 d1 ∧ Dp K H v2 d2 := by
  cases h with | cons a r => cases r with | cons b r => cases r; exact ⟨_, _, rfl, a, b⟩
theorem DpAll.inv3 {xs : List V} {d1 d2 d3 : PyData} (h : DpAll K H xs [d1, d2, d3]) : ∃ v1 v2 v3, xs = [v1, v2, v3] ∧ Dp K H v1 d1 ∧ Dp K H v2 d2 ∧ Dp K H v3 d3 := by
  cases h with | cons a r => obtain ⟨v2, v3, rfl, h2, h3⟩ := DpAll.inv2 r; exact ⟨_, _, _, rfl, a, h2, h3⟩
theorem DpAll.inv5 {xs : List V} {d1 d2 d3 d4 d5 : PyData} (h : DpAll K H xs [d1, d2, d3, d4, d5]) :
    ∃ v1 v2 v3 v4 v5, xs = [v1, v2, v3, v4, v5] ∧ Dp K H v1 d1 ∧ Dp K H v2 d2 ∧ Dp K H v3 d3 ∧ Dp K H v4 d4 ∧ Dp K H v5 d5 := by
  cases h with | cons a r => cases r with | cons b r => obtain ⟨v3, v4, v5, rfl, h3, h4, h5⟩ := DpAll.inv3 r; exact ⟨_, _, _, _, _, rfl, a, b, h3, h4, h5⟩
theorem rd_at {pk : Bool} {c s : Str} (h : Dp K H v (rowD (.rd pk c s))) : ∃ a, v = .ref a ∧ SqT K H a [.str (if pk then "peek" else "read"), .str c, .str s] := by
  obtain ⟨a, xs, rfl, hS, hD⟩ := Dp.tup_inv (by unfold rowD at h; exact h)
  obtain ⟨v1, v2, v3, rfl, h1, h2, h3⟩ := DpAll.inv3 hD
  cases h1; cases h2; cases h3
  exact ⟨a, rfl, hS⟩
theorem put_at {s c : Str} (h : Dp K H v (rowD (.put s c))) : ∃ a, v = .ref a ∧ SqT K H a [.str "put", .str s, .str c] := by
  obtain ⟨a, xs, rfl, hS, hD⟩ := Dp.tup_inv (by unfold rowD at h; exact h)
  obtain ⟨v1, v2, v3, rfl, h1, h2, h3⟩ := DpAll.inv3 hD
  cases h1; cases h2; cases h3
  exact ⟨a, rfl, hS⟩
theorem wr_at {s c : Str} (h : Dp K H v (rowD (.wr c s))) : ∃ a, v = .ref a ∧ SqT K H a [.str "write", .str c, .str s] := by
  obtain ⟨a, xs, rfl, hS, hD⟩ := Dp.tup_inv (by unfold rowD at h; exact h)
  obtain ⟨v1, v2, v3, rfl, h1, h2, h3⟩ := DpAll.inv3 hD
  cases h1; cases h2; cases h3
  exact ⟨a, rfl, hS⟩
theorem give_at {s : Str} (h : Dp K H v (rowD (.give s))) : ∃ a, v = .ref a ∧ SqT K H a [.str "give", .str s] := by
  obtain ⟨a, xs, rfl, hS, hD⟩ := Dp.tup_inv (by unfold rowD at h; exact h)
  obtain ⟨v1, v2, rfl, h1, h2⟩ := DpAll.inv2 hD
  cases h1; cases h2
  exact ⟨a, rfl, hS⟩
theorem say_at {s : Str} (h : Dp K H v (rowD (.say s))) : ∃ a, v = .ref a ∧ SqT K H a [.str "say", .str s] := by
  obtain ⟨a, xs, rfl, hS, hD⟩ := Dp.tup_inv (by unfold rowD at h; exact h)
  obtain ⟨v1, v2, rfl, h1, h2⟩ := DpAll.inv2 hD
  cases h1; cases h2
  exact ⟨a, rfl, hS⟩
theorem ite_at {s c : Str} {y n : List Row} (h : Dp K H v (rowD (.ite s c y n))) : ∃ a vy vn, v = .ref a ∧ SqT K H a [.str "if", .str s, .str c, vy, vn] ∧
    Dp K H vy (.tuple (rowsD y)) ∧ Dp K H vn (.tuple (rowsD n)) := by
  obtain ⟨a, xs, rfl, hS, hD⟩ := Dp.tup_inv (by unfold rowD at h; exact h)
  obtain ⟨v1, v2, v3, v4, v5, rfl, h1, h2, h3, h4, h5⟩ := DpAll.inv5 hD
  cases h1; cases h2; cases h3
  exact ⟨a, _, _, rfl, hS, h4, h5⟩
/-- the rows' items -/
theorem rows_at {rs : List Row} (h : Dp K H v (.tuple (rowsD rs))) : ∃ (a : Addr) (xs : List V), v = .ref a ∧ SqT K H a xs ∧ xs.length = rs.length ∧
    ∀ (i : Nat) (x : V), xs[i]? = some x → ∃ r, rs[i]? = some r ∧ Dp K H x (rowD r) := by
  obtain ⟨a, xs, rfl, hS, hD⟩ := Dp.tup_inv h
  have hl := DpAll.length hD
  rw [rowsD_length] at hl
  refine ⟨a, xs, rfl, hS, hl, fun i x hx => ?_⟩
  have hi : i < rs.length := by rw [← hl]; exact (List.getElem?_eq_some_iff.mp hx).1
  obtain ⟨d, h1, h2⟩ := DpAll.get hD hx
  have e := rowsD_get (List.getElem?_eq_getElem hi)
  rw [h1] at e
  exact ⟨_, List.getElem?_eq_getElem hi, by rw [← Option.some.inj e]; exact h2⟩
end
theorem take_more {α : Type} {l : List α} {i : Nat} {x : α} (h : l[i]? = some x) : l.take (i + 1) = l.take i ++ [x] := by
  have hi := (List.getElem?_eq_some_iff.mp h).1
  rw [List.take_succ_eq_append_getElem hi, (List.getElem?_eq_some_iff.mp h).2]
theorem cnts_take {rs : List Row} {i : Nat} {r : Row} (h : rs[i]? = some r) : cnts (rs.take (i + 1)) = cnts (rs.take i) + cnt r := by
  rw [take_more h, cnts_append]
  simp [cnts]
theorem cnt_pos : ∀ r, 1 ≤ cnt r
  | .ite _ _ y n => by unfold cnt; omega
  | .rd .. => by unfold cnt; exact Nat.le_refl _
  | .put .. => by unfold cnt; exact Nat.le_refl _
  | .give .. => by unfold cnt; exact Nat.le_refl _
  | .say .. => by unfold cnt; exact Nat.le_refl _
  | .wr .. => by unfold cnt; exact Nat.le_refl _
theorem cnt_flat : ∀ {r}, isIte r = false → cnt r = 1
  | .ite .., h => by cases h
  | .rd .., _ => rfl
  | .put .., _ => rfl
  | .give .., _ => rfl
  | .say .., _ => rfl
  | .wr .., _ => rfl
end Td
/-! Data of tuples, texts, numbers alone. -/
namespace Td
open PySem PySem.Spec PyProof.Rows L2
def TK (H H' : Hp) : Prop := (∀ b xs, H b = some (.tup xs) → H' b = some (.tup xs)) ∧ ∀ b o u, H b = some (.frz o u) → H' b = some (.frz o u)
theorem TK.refl (H : Hp) : TK H H := ⟨fun _ _ h => h, fun _ _ _ h => h⟩
theorem TK.trans {H H1 H2 : Hp} (a : TK H H1) (b : TK H1 H2) : TK H H2 := ⟨fun c xs h => b.1 c xs (a.1 c xs h), fun c o u h => b.2 c o u (a.2 c o u h)⟩
theorem TK.of_same {H H' : Hp} (s : Same H H') : TK H H' := ⟨fun c xs h => s c _ h, fun c o u h => s c _ h⟩
/-- what may change: no tuple, nothing locked -/
def Chg : Option HO → Prop
  | some (.tup _) => False
  | some (.frz _ _) => False
  | _ => True
theorem TK.of_keep {st : Addr} {H H' : Hp} (k : Keep st H H') (h : Chg (H st)) : TK H H' :=
  ⟨fun b xs e => k b _ (fun z => by rw [z] at e; rw [e] at h; exact h) e, fun b o u e => k b _ (fun z => by rw [z] at e; rw [e] at h; exact h) e⟩
theorem TK.upd {p : Addr} {H : Hp} {o : HO} (h : Chg (H p)) : TK H (L2.upd H p o) := TK.of_keep (st := p) Keep.upd h
mutual
inductive Tn (K : PySem.W.Frag) (H : Hp) : V → PyData → Prop
  | non : Tn K H .non .none
  | bl (b : Bool) : Tn K H (.bl b) (.bool b)
  | int (i : Int) : Tn K H (.int i) (.int i)
  | str (x : Str) : Tn K H (.str x) (.str x)
  | tup {a : Addr} {xs : List V} {ds : List PyData} : SqT K H a xs → TnAll K H xs ds → Tn K H (.ref a) (.tuple ds)
inductive TnAll (K : PySem.W.Frag) (H : Hp) : List V → List PyData → Prop
  | nil : TnAll K H [] []
  | cons {v : V} {vs : List V} {d : PyData} {ds : List PyData} : Tn K H v d → TnAll K H vs ds → TnAll K H (v :: vs) (d :: ds)
end
section
variable {K : PySem.W.Frag} {H H' : Hp} {st : Addr}
theorem SqT.tk {a : Addr} {xs : List V} (k : TK H H') (h : SqT K H a xs) : SqT K H' a xs := by
  rcases h with (h | ⟨o, h⟩) | h
  · exact .inl (.inl (k.1 _ _ h))
  · exact .inl (.inr ⟨o, k.2 _ _ _ h⟩)
  · exact .inr h
mutual
theorem Tn.keep (s : TK H H') : ∀ {v : V} {d : PyData}, Tn K H v d → Tn K H' v d
  | _, _, .non => .non
  | _, _, .bl b => .bl b
  | _, _, .int b => .int b
  | _, _, .str b => .str b
  | _, _, .tup q r => .tup (SqT.tk s q) (TnAll.keep s r)
theorem TnAll.keep (s : TK H H') : ∀ {v : List V} {d : List PyData}, TnAll K H v d → TnAll K H' v d
  | _, _, .nil => .nil
  | _, _, .cons a b => .cons (Tn.keep s a) (TnAll.keep s b)
end
mutual
theorem Tn.dp : ∀ {v : V} {d : PyData}, Tn K H v d → Dp K H v d
  | _, _, .non => .non
  | _, _, .bl b => .bl b
  | _, _, .int b => .int b
  | _, _, .str b => .str b
  | _, _, .tup q r => .tup q (TnAll.dp r)
theorem TnAll.dp : ∀ {v : List V} {d : List PyData}, TnAll K H v d → DpAll K H v d
  | _, _, .nil => .nil
  | _, _, .cons a b => .cons (Tn.dp a) (TnAll.dp b)
end
theorem TnAll.strs (zs : List Str) : TnAll K H (zs.map V.str) (zs.map PyData.str) := by
  induction zs with
  | nil => exact .nil
  | cons z r ih => exact .cons (.str z) ih
theorem TnAll.append : ∀ {vs ws : List V} {ds es : List PyData}, TnAll K H vs ds → TnAll K H ws es → TnAll K H (vs ++ ws) (ds ++ es)
  | _, _, _, _, .nil, h => h
  | _, _, _, _, .cons a r, h => .cons a (TnAll.append r h)
theorem TnAll.length : ∀ {vs : List V} {ds : List PyData}, TnAll K H vs ds → vs.length = ds.length
  | _, _, .nil => rfl
  | _, _, .cons _ r => by rw [List.length_cons, List.length_cons, TnAll.length r]
theorem TnAll.one {v : V} {d : PyData} (h : Tn K H v d) : TnAll K H [v] [d] := .cons h .nil
theorem Tn.tup_inv {v : V} {ds : List PyData} (h : Tn K H v (.tuple ds)) : ∃ (a : Addr) (xs : List V), v = .ref a ∧ SqT K H a xs ∧ TnAll K H xs ds := by
  cases h with
  | tup q r => exact ⟨_, _, rfl, q, r⟩
theorem TnAll.get : ∀ {vs : List V} {ds : List PyData} {i : Nat} {v : V}, TnAll K H vs ds → vs[i]? = some v → ∃ d, ds[i]? = some d ∧ Tn K H v d
  | _, _, _, _, .nil, h => by simp at h
  | _, _, 0, _, .cons a _, h => by simp at h; subst h; exact ⟨_, rfl, a⟩
  | _, _, i + 1, v, .cons _ r, h => by
    obtain ⟨d, h1, h2⟩ := TnAll.get (i := i) (v := v) r (by simpa using h)
    exact ⟨d, by simpa using h1, h2⟩
theorem TnAll.strs_inv : ∀ {vs : List V} {zs : List Str}, TnAll K H vs (zs.map PyData.str) → vs = zs.map V.str
  | vs, [], h => by cases h; rfl
  | vs, z :: zs, h => by
    cases h with
    | cons a r => cases a; rw [TnAll.strs_inv r]; rfl
/-- a new tuple -/
theorem Tn.new {p : Addr} {xs : List V} {ds : List PyData} (h : TnAll K H xs ds) (hp : H p = none) : Tn K (upd H p (.tup xs)) (.ref p) (.tuple ds) :=
  .tup (SqT.of upd_same) (TnAll.keep (TK.of_same (Same.new hp _)) h)
end
/-! ### an if whose second way is shown once -/
def tIfC (c : TT) (t u : TS) : TS := fun D σ H => ∃ Mid : Hp → Prop, (c σ H fun b H1 => if b = true then t D σ H1 else Mid H1) ∧ ∀ H1, Mid H1 → u D σ H1
theorem ps_ifC {X : Cx} {c : Expr} {a b : List Stmt} {tc : TT} {t u : TS} {pos : Pos} (hc : PT X c tc) (ha : PSs X a t) (hb : PSs X b u) : PS X (.If c a b pos) (tIfC tc t u) := by
  refine ⟨fun pins s σ H D I h => ?_⟩
  obtain ⟨Mid, h, hu⟩ := h
  refine wpAny_If (thn (hc.run pins s σ H _ I h) fun d s1 ⟨H1, I1, q1⟩ => ?_)
  cases d with
  | true => exact ha.run pins s1 σ H1 D I1 q1
  | false => exact hb.run pins s1 σ H1 D I1 (hu H1 q1)
end Td
/-! The parts of a program. -/
namespace Td
open PySem PySem.Spec PyProof.Rows L2
/-- a list of different names -/
structure Names (ns : List Str) : Prop where
  good : ∀ z ∈ ns, isNm z = true
  nd : ns.Nodup
structure PP where
  words : List Str
  sources : List Str
  derived : List (Str × List Row)
  effects : List (Str × List Row)
def pairD (p : Str × List Row) : PyData := .tuple [.str p.1, .tuple (rowsD p.2)]
def strsD (zs : List Str) : PyData := .tuple (zs.map PyData.str)
def pairsD (ps : List (Str × List Row)) : PyData := .tuple (ps.map pairD)
def PP.data (p : PP) : PyData := .tuple [strsD p.words, strsD p.sources, pairsD p.derived, pairsD p.effects]
def PP.names (p : PP) : List Str := p.sources ++ p.derived.map (·.1) ++ p.effects.map (·.1)
def PP.cells (p : PP) : List Str := p.sources ++ p.derived.map (·.1)
/-- not too many rows; the last of them may be a give or a say beyond the room -/
def Lim (eff : Bool) (most : Nat) (rs : List Row) : Prop := cnts rs ≤ most ∧ ∃ rs0 t, rs = rs0 ++ t ∧ cnts rs0 + 1 ≤ most ∧ (t = [] ∨ ∃ s, t = [if eff then Row.say s else Row.give s])
/-- derived bodies are right, each behind the cells ahead of it -/
def okDer (words sources : List Str) (most : Nat) : List Str → List (Str × List Row) → Prop
  | _, [] => True
  | rd, p :: r => okRs ⟨false, words, sources, rd⟩ 1 p.2 ∧ Lim false most p.2 ∧ okDer words sources most (rd ++ [p.1]) r
def okEff (words sources rd : List Str) (most : Nat) : List (Str × List Row) → Prop
  | [] => True
  | p :: r => okRs ⟨true, words, sources, rd⟩ 1 p.2 ∧ Lim true most p.2 ∧ okEff words sources rd most r
structure PP.Ok (p : PP) (most : Nat) : Prop where
  w2 : 2 ≤ p.words.length
  w4 : p.words.length ≤ 4
  s1 : 1 ≤ p.sources.length
  s4 : p.sources.length ≤ 4
  d6 : p.derived.length ≤ 6
  e4 : p.effects.length ≤ 4
  wn : Names p.words
  nn : Names p.names
  der : okDer p.words p.sources most p.sources p.derived
  eff : okEff p.words p.sources p.cells most p.effects
theorem okDer_snoc {words sources : List Str} {most : Nat} : ∀ {ps : List (Str × List Row)} {rd : List Str} {p : Str × List Row}, okDer words sources most rd ps →
    okRs ⟨false, words, sources, rd ++ ps.map (·.1)⟩ 1 p.2 → Lim false most p.2 → okDer words sources most rd (ps ++ [p])
  | [], rd, p, _, h1, h2 => by
    show okDer words sources most rd [p]
    unfold okDer
    exact ⟨by simpa using h1, h2, by unfold okDer; trivial⟩
  | q :: ps, rd, p, h, h1, h2 => by
    show okDer words sources most rd (q :: (ps ++ [p]))
    unfold okDer at h ⊢
    refine ⟨h.1, h.2.1, okDer_snoc h.2.2 ?_ h2⟩
    simpa using h1
theorem okEff_snoc {words sources rd : List Str} {most : Nat} : ∀ {ps : List (Str × List Row)} {p : Str × List Row}, okEff words sources rd most ps →
    okRs ⟨true, words, sources, rd⟩ 1 p.2 → Lim true most p.2 → okEff words sources rd most (ps ++ [p])
  | [], p, _, h1, h2 => by
    show okEff words sources rd most [p]
    unfold okEff
    exact ⟨h1, h2, by unfold okEff; trivial⟩
  | q :: ps, p, h, h1, h2 => by
    show okEff words sources rd most (q :: (ps ++ [p]))
    unfold okEff at h ⊢
    exact ⟨h.1, h.2.1, okEff_snoc h.2.2 h1 h2⟩
theorem Names.sub {ns ms : List Str} (h : Names ns) (s : ms.Sublist ns) : Names ms := ⟨fun z hz => h.good z (s.subset hz), h.nd.sublist s⟩
/-- the keys of the shape -/
def shp (k c s sl w : V) : List (Key × V) := [(.inr "kind", k), (.inr "cells", c), (.inr "sources", s), (.inr "slots", sl), (.inr "words", w)]
def shp7 (k c s sl w p r : V) : List (Key × V) := [(.inr "kind", k), (.inr "cells", c), (.inr "sources", s), (.inr "slots", sl), (.inr "words", w), (.inr "peeks", p), (.inr "writes", r)]
def shp6 (k c s sl w p : V) : List (Key × V) := [(.inr "kind", k), (.inr "cells", c), (.inr "sources", s), (.inr "slots", sl), (.inr "words", w), (.inr "peeks", p)]
section
variable (k c s sl w p r k' c' p' r' : V)
theorem shp_merge : mergeK [] (shp k c s sl w) = shp k c s sl w := by kernel_rfl
theorem shp_peeks : putK (shp k c s sl w) (.inr "peeks") p = shp6 k c s sl w p := by kernel_rfl
theorem shp_writes : putK (shp6 k c s sl w p) (.inr "writes") r = shp7 k c s sl w p r := by kernel_rfl
theorem shp7_cells : putK (shp7 k c s sl w p r) (.inr "cells") c' = shp7 k c' s sl w p r := by kernel_rfl
theorem shp7_kind : putK (shp7 k c s sl w p r) (.inr "kind") k' = shp7 k' c s sl w p r := by kernel_rfl
theorem shp7_peeks : putK (shp7 k c s sl w p r) (.inr "peeks") p' = shp7 k c s sl w p' r := by kernel_rfl
theorem shp7_writes : putK (shp7 k c s sl w p r) (.inr "writes") r' = shp7 k c s sl w p r' := by kernel_rfl
theorem get_words : valV (shp7 k c s sl w p r) (.inr "words") = some w := by kernel_rfl
theorem get_slots : valV (shp7 k c s sl w p r) (.inr "slots") = some sl := by kernel_rfl
theorem get_cells : valV (shp7 k c s sl w p r) (.inr "cells") = some c := by kernel_rfl
theorem get_sources : valV (shp7 k c s sl w p r) (.inr "sources") = some s := by kernel_rfl
theorem get_kind : valV (shp7 k c s sl w p r) (.inr "kind") = some k := by kernel_rfl
theorem get_peeks : valV (shp7 k c s sl w p r) (.inr "peeks") = some p := by kernel_rfl
theorem get_writes : valV (shp7 k c s sl w p r) (.inr "writes") = some r := by kernel_rfl
end
theorem inV_strs (z : Str) (ws : List Str) : inV (.str z) (ws.map V.str) = decide (z ∈ ws) := by
  induction ws with
  | nil => rfl
  | cons y r ih =>
    show (eqV (.str y) (.str z) || inV (.str z) (r.map V.str)) = _
    rw [ih]
    have e : eqV (.str y) (.str z) = decide (z = y) := by
      show (_ : Bool) = _
      by_cases h : z = y
      · subst h; simp [eqV]
      · simp [eqV, h]
        intro h'; exact h h'.symm
    rw [e]
    simp
theorem flat_strs (ws : List Str) : (ws.map V.str).all flatV = true := by
  rw [List.all_eq_true]; intro y hy; obtain ⟨u, _, rfl⟩ := List.mem_map.mp hy; rfl
theorem cut_from1 (xs : List V) : cutV xs (some 1) none = xs.drop 1 := by
  unfold cutV
  rw [HT.sIx_none, show HT.sIx xs.length 0 (some 1) = min 1 xs.length from HT.sIx_nat _ _ 1]
  rcases xs with _ | ⟨x, r⟩
  · rfl
  · show ((x :: r).drop (min 1 (r.length + 1))).take ((r.length + 1) - min 1 (r.length + 1)) = _
    rw [show min 1 (r.length + 1) = 1 by omega]
    simp
theorem cut_to (xs : List V) (k : Nat) (h : k ≤ xs.length) : cutV xs none (some (k : Int)) = xs.take k := by
  unfold cutV
  rw [HT.sIx_none, HT.sIx_nat, List.drop_zero, Nat.sub_zero, Nat.min_eq_left h]
theorem not_whole1 {xs : List V} (h : xs ≠ []) (hi : Option Int) : ¬ (HT.sIx xs.length 0 (some 1) = 0 ∧ HT.sIx xs.length xs.length hi = xs.length) := by
  rintro ⟨e, _⟩
  rw [show HT.sIx xs.length 0 (some 1) = min 1 xs.length from HT.sIx_nat _ _ 1] at e
  have := List.length_pos_iff.mpr h
  omega
/-- the words with another one at the end -/
theorem Names.turn {ws : List Str} {z : Str} (h : Names ws) (hz : isNm z = true) (hn : z ∉ ws) : Names (ws.drop 1 ++ [z]) := by
  refine ⟨fun y hy => ?_, ?_⟩
  · rcases List.mem_append.mp hy with q | q
    · exact h.good y (List.mem_of_mem_drop q)
    · rw [List.mem_singleton.mp q]; exact hz
  · refine List.nodup_append.mpr ⟨h.nd.sublist (List.drop_sublist 1 ws), by simp, fun a ha b hb e => ?_⟩
    have : b = z := by simpa using hb
    subst this
    subst e
    exact hn (List.mem_of_mem_drop ha)
end Td
/-! Loops over texts and enumerated tuples; a call of one of several defs. -/
namespace Td
open PySem PySem.Spec PyProof.Rows L2
theorem tYes_of {σ : L2.St} {H : Hp} {A B : Hp → Prop} (h : A H) : tYes σ H (fun b H3 => if b = true then A H3 else B H3) := by
  show (if true = true then A H else B H)
  exact iteT h
theorem lc_str {z : Str} {g : TG} {tt : TT} {te : TE} {vs : List Nat} {σ : L2.St} {H1 : Hp} {D : Addr} {Qd : Hp → Prop} (Pv : Nat → Hp → Prop) (h0 : Pv 0 (upd H1 D (.lst [])))
    (hs : ∀ (i c : Nat) (H : Hp), z.cps[i]? = some c → Pv i H → g (.str ⟨#[c]⟩) (wipe σ vs) H fun σ2 H2 => wipe σ2 vs = wipe σ vs ∧ tt σ2 H2 fun b H3 =>
      if b = true then te σ2 H3 fun y H4 => ∃ acc, H4 D = some (.lst acc) ∧ acc.length < sizeLine ∧ Pv (i + 1) (upd H4 D (.lst (acc ++ [y]))) else Pv (i + 1) H3) (hd : ∀ H, Pv z.cps.size H → Qd H) :
    ∃ W : Nat → Nat → Hp → Prop, (∃ m, W 0 m (upd H1 D (.lst []))) ∧ ∀ i m H, W i m H →
      ((Its z).stop i H ∧ Qd H) ∨ ((Its z).go i H ∧ ∃ Nx : Hp → Prop, (∀ H', Nx H' → ∃ m', m' < m ∧ W (i + 1) m' H') ∧ ∀ x H', (Its z).yld i H x H' → g x (wipe σ vs) H' fun σ2 H2 => wipe σ2 vs = wipe σ vs ∧ tt σ2 H2 fun b H3 =>
        if b = true then te σ2 H3 fun y H4 => ∃ acc, H4 D = some (.lst acc) ∧ acc.length < sizeLine ∧ Nx (upd H4 D (.lst (acc ++ [y]))) else Nx H3) := by
  refine ⟨fun i m H => m = z.cps.size - i ∧ i ≤ z.cps.size ∧ Pv i H, ⟨z.cps.size, by simp, Nat.zero_le _, h0⟩, ?_⟩
  rintro i m H ⟨rfl, hi, p⟩
  by_cases hlt : i < z.cps.size
  · refine .inr ⟨hlt, Pv (i + 1), fun H' p' => ⟨z.cps.size - (i + 1), by omega, rfl, hlt, p'⟩, fun x H' y => ?_⟩
    obtain ⟨e, c, hc, ex⟩ := y
    subst e
    subst ex
    exact hs i c _ hc p
  · have e : i = z.cps.size := by omega
    subst e
    exact .inl ⟨Nat.le_refl _, hd H p⟩
theorem for_enumT {K : PySem.W.Frag} {a : Addr} {xs : List V} {g : TG} {tb : TS} {D : Ends} {σ : L2.St} {H : Hp} (Pv : Nat → L2.St → Hp → Prop) (h0 : Pv 0 σ H) (hl : ∀ i σ H, i ≤ xs.length → Pv i σ H → SqT K H a xs)
    (hs : ∀ (i : Nat) (x : V) (σ : L2.St) (H : Hp) (T : Addr), xs[i]? = some x → Pv i σ H → H T = none → g (.ref T) σ (upd H T (.tup [.int (i : Nat), x])) fun σ2 H2 => tb { D with nx := Pv (i + 1), ct := Pv (i + 1), bk := D.nx } σ2 H2)
    (hd : ∀ σ H, Pv xs.length σ H → D.nx σ H) :
    ∃ W : Nat → Nat → L2.St → Hp → Prop, (∃ m, W 0 m σ H) ∧ ∀ i m σ H, W i m σ H →
      ((IteT K a).stop i H ∧ D.nx σ H) ∨ ((IteT K a).go i H ∧ ∃ N : L2.St → Hp → Prop, (∀ σ' H', N σ' H' → ∃ m', m' < m ∧ W (i + 1) m' σ' H') ∧
        ∀ x H', (IteT K a).yld i H x H' → g x σ H' fun σ2 H2 => tb { D with nx := N, ct := N, bk := D.nx } σ2 H2) := by
  refine ⟨fun i m σ H => m = xs.length - i ∧ i ≤ xs.length ∧ Pv i σ H, ⟨xs.length, by simp, Nat.zero_le _, h0⟩, ?_⟩
  rintro i m σ H ⟨rfl, hi, p⟩
  have q := hl i σ H hi p
  by_cases hlt : i < xs.length
  · refine .inr ⟨⟨xs, xs[i], q, by simp [hlt]⟩, Pv (i + 1), fun σ' H' p' => ⟨xs.length - (i + 1), by omega, rfl, hlt, p'⟩, fun x H' y => ?_⟩
    obtain ⟨T, u, ex, hT, eH, hu⟩ := y
    subst ex
    subst eH
    exact hs i u σ H T (hu xs q) p hT
  · have e : i = xs.length := by omega
    subst e
    exact .inl ⟨⟨xs, q, rfl⟩, hd σ H p⟩
/-- a call of a local name that holds one of several defs -/
def tCallR (i : Nat) (S : Addr → Sp → Prop) (t : TA) : TE := fun σ H Q => ∃ f sp, σ[i]? = some (some (.ref f)) ∧ S f sp ∧ t σ H fun vs H1 => sp vs H1 Q (fun _ _ _ => False)
section
variable {X : Cx} {k i : Nat} {x : Str} {p pos : Pos} {e : Expr} {es : List Expr} {t : TA}
theorem pe_callR {S : Addr → Sp → Prop} (A : ∀ f sp, S f sp → Held X.prog X.w X.K X.mg X.base k f sp) (hr : Room k X.A) (hN : X.N[i]? = some x) (hv : Vis X.env.scope x) (ha : PA X (e :: es) t)
    (hdb : (x == ("__debug__" : Str)) = false := by decide) (hcd : (x == ("__classdict__" : Str)) = false := by decide)
    (he : starEach (e :: es) X.env = (false, eval e X.env) :: starEach es X.env := by rfl) (hpl : (backTo pos (starEach es X.env)).any (·.1) = false := by rfl) :
    PE X (.Call (.Name x p) (e :: es) [] pos) (tCallR i S t) := by
  refine ⟨fun pins s σ H Q I h => ?_⟩
  obtain ⟨f, sp, h1, h2, h3⟩ := h
  exact (pe_callA (S := fun g => if g = f then some sp else none) (fun g sp' h => by
    split at h
    · rename_i e1
      cases h
      rw [e1]
      exact A f sp h2
    · cases h) hr hN hv ha hdb hcd he hpl).run pins s σ H Q I ⟨f, sp, h1, if_pos rfl, h3⟩
end
end Td
/-! What a true run does. -/
namespace Td
open PySem PySem.Spec PyProof.Rows L2
abbrev Env := List (Str × Str)
def kv (L : Env) : List (Key × V) := L.map fun p => (.inr p.1, V.str p.2)
def getE (L : Env) (k : Str) : Option Str := (L.find? fun p => decide (p.1 = k)).map (·.2)
def putE (L : Env) (k v : Str) : Env := if (L.any fun p => decide (p.1 = k)) = true then L.map (fun p => if p.1 = k then (p.1, v) else p) else L ++ [(k, v)]
def sdE (L : Env) (k v : Str) : Env := if (getE L k).isSome = true then L else putE L k v
theorem kv_len (L : Env) : (kv L).length = L.length := List.length_map _
theorem inr_iff (a b : Str) : (Sum.inr a : Key) = .inr b ↔ a = b := ⟨fun h => Sum.inr.inj h, fun h => by rw [h]⟩
theorem kv_get (L : Env) (k : Str) : valV (kv L) (.inr k : Key) = (getE L k).map V.str := by
  unfold valV getE kv
  induction L with
  | nil => rfl
  | cons p r ih =>
    rw [List.map_cons, List.find?_cons, List.find?_cons]
    by_cases h : p.1 = k
    · simp [h]
    · have h2 : ¬ ((Sum.inr p.1 : Key) = .inr k) := fun e => h (Sum.inr.inj e)
      simp only [decide_eq_false h, decide_eq_false h2]
      exact ih
theorem kv_any (L : Env) (k : Str) : ((kv L).any fun q => decide (q.1 = (.inr k : Key))) = L.any fun p => decide (p.1 = k) := by
  unfold kv
  induction L with
  | nil => rfl
  | cons p r ih =>
    rw [List.map_cons, List.any_cons, List.any_cons, ih]
    congr 1
    exact decide_eq_decide.mpr (inr_iff _ _)
theorem kv_put (L : Env) (k v : Str) : putK (kv L) (.inr k : Key) (.str v) = kv (putE L k v) := by
  unfold putK putE
  rw [kv_any]
  by_cases h : (L.any fun p => decide (p.1 = k)) = true
  · rw [if_pos h, if_pos h]
    unfold kv
    rw [List.map_map, List.map_map]
    refine List.map_congr_left fun p _ => ?_
    show (if (Sum.inr p.1 : Key) = .inr k then _ else _) = _
    by_cases e : p.1 = k
    · have e2 : (Sum.inr p.1 : Key) = .inr k := by rw [e]
      rw [if_pos e2]
      show _ = ((Sum.inr (if p.1 = k then (p.1, v) else p).1 : Key), V.str (if p.1 = k then (p.1, v) else p).2)
      rw [if_pos e]
    · have e2 : ¬ (Sum.inr p.1 : Key) = .inr k := fun h => e (Sum.inr.inj h)
      rw [if_neg e2]
      show _ = ((Sum.inr (if p.1 = k then (p.1, v) else p).1 : Key), V.str (if p.1 = k then (p.1, v) else p).2)
      rw [if_neg e]
  · rw [if_neg h, if_neg h]
    unfold kv
    rw [List.map_append]
    rfl
theorem putE_len (L : Env) (k v : Str) : (putE L k v).length ≤ L.length + 1 := by
  unfold putE
  split
  · rw [List.length_map]; omega
  · rw [List.length_append]; exact Nat.le_refl _
theorem sdE_len (L : Env) (k v : Str) : (sdE L k v).length ≤ L.length + 1 := by
  unfold sdE
  split
  · omega
  · exact putE_len ..
theorem getE_any (k : Str) : ∀ L : Env, (L.any fun p => decide (p.1 = k)) = (getE L k).isSome
  | [] => rfl
  | p :: r => by
    rw [List.any_cons]
    unfold getE
    rw [List.find?_cons]
    by_cases e : p.1 = k
    · simp [e]
    · simp only [decide_eq_false e, Bool.false_or]
      exact getE_any k r
theorem getE_cons (p : Str × Str) (r : Env) (k : Str) : getE (p :: r) k = if p.1 = k then some p.2 else getE r k := by
  unfold getE
  rw [List.find?_cons]
  by_cases e : p.1 = k
  · simp [e]
  · simp [e]
theorem getE_put (L : Env) (k v j : Str) : getE (putE L k v) j = if j = k then some v else getE L j := by
  unfold putE
  split
  · rename_i h
    induction L with
    | nil => simp at h
    | cons p r ih =>
      rw [List.map_cons, getE_cons, getE_cons]
      by_cases e : p.1 = k
      · rw [if_pos e]
        by_cases ej : j = k
        · subst ej; simp [e]
        · have : ¬ p.1 = j := fun h => ej (by rw [← h, e])
          rw [if_neg this, if_neg this, if_neg ej]
          by_cases hr : (r.any fun p => decide (p.1 = k)) = true
          · rw [ih hr, if_neg ej]
          · have hr2 : r.map (fun p => if p.1 = k then (p.1, v) else p) = r := by
              conv => rhs; rw [← List.map_id r]
              refine List.map_congr_left fun q hq => ?_
              rw [if_neg]
              · rfl
              · intro e2
                exact hr (List.any_eq_true.mpr ⟨q, hq, decide_eq_true e2⟩)
            rw [hr2]
      · rw [if_neg e]
        have hr : (r.any fun p => decide (p.1 = k)) = true := by
          rw [List.any_cons, decide_eq_false e, Bool.false_or] at h
          exact h
        rw [ih hr]
        by_cases ej : p.1 = j
        · rw [if_pos ej, if_pos ej, if_neg (fun h => e (by rw [ej, h]))]
        · rw [if_neg ej, if_neg ej]
  · rename_i h
    have hn : getE L k = none := by
      rw [getE_any] at h
      cases e : getE L k with
      | none => rfl
      | some z => rw [e] at h; exact absurd rfl h
    induction L with
    | nil => rw [List.nil_append, getE_cons]; by_cases ej : j = k
             · subst ej; simp
             · rw [if_neg (fun e => ej e.symm), if_neg ej]
    | cons p r ih =>
      rw [List.cons_append, getE_cons, getE_cons]
      rw [getE_cons] at hn
      by_cases e : p.1 = k
      · rw [if_pos e] at hn; cases hn
      · rw [if_neg e] at hn
        have hr : ¬ (r.any fun p => decide (p.1 = k)) = true := by rw [getE_any, hn]; simp
        rw [ih hr hn]
        by_cases ej : p.1 = j
        · rw [if_pos ej, if_pos ej, if_neg (fun h => e (by rw [ej, h]))]
        · rw [if_neg ej, if_neg ej]
/-! ### a run -/
structure RS where
  slots : Env
  noted : Env
  peeked : Env
  said : List Str
  written : Env
  given : Str
def RS.word (st : RS) (d s : Str) : Str := (getE st.slots s).getD d
mutual
def runR (kn : Str → Str) (d : Str) : Row → RS → RS × Bool
  | .rd pk c s, st => ({ st with slots := putE st.slots s (kn c), noted := (if pk then st.noted else sdE st.noted c (kn c)), peeked := (if pk then sdE st.peeked c (kn c) else st.peeked) }, false)
  | .put s u, st => ({ st with slots := putE st.slots s u }, false)
  | .give s, st => ({ st with given := st.word d s }, true)
  | .say s, st => ({ st with said := st.said ++ [st.word d s] }, false)
  | .wr c s, st => ({ st with written := st.written ++ [(c, st.word d s)] }, false)
  | .ite s u y n, st => if st.word d s = u then runRs kn d y st else runRs kn d n st
def runRs (kn : Str → Str) (d : Str) : List Row → RS → RS × Bool
  | [], st => (st, false)
  | r :: rs, st => if (runR kn d r st).2 = true then ((runR kn d r st).1, true) else runRs kn d rs (runR kn d r st).1
end
theorem runRs_yes {kn : Str → Str} {d : Str} {r : Row} {st : RS} (rs : List Row) (h : (runR kn d r st).2 = true) : runRs kn d (r :: rs) st = ((runR kn d r st).1, true) := by simp only [runRs, if_pos h]
theorem runRs_no {kn : Str → Str} {d : Str} {r : Row} {st : RS} (rs : List Row) (h : ¬ (runR kn d r st).2 = true) : runRs kn d (r :: rs) st = runRs kn d rs (runR kn d r st).1 := by simp only [runRs, if_neg h]
theorem runRs_append (kn : Str → Str) (d : Str) : ∀ (rs ts : List Row) (st : RS), runRs kn d (rs ++ ts) st = if (runRs kn d rs st).2 = true then runRs kn d rs st else runRs kn d ts (runRs kn d rs st).1
  | [], ts, st => by
    show runRs kn d ts st = _
    simp [runRs]
  | r :: rs, ts, st => by
    show runRs kn d (r :: (rs ++ ts)) st = _
    by_cases h : (runR kn d r st).2 = true
    · simp only [runRs_yes _ h, if_true]
    · simp only [runRs_no _ h]
      exact runRs_append kn d rs ts _
theorem runRs_next {kn : Str → Str} {d : Str} {rs : List Row} {st : RS} {i : Nat} {r : Row} (h : rs[i]? = some r) (hf : (runRs kn d (rs.take i) st).2 = false) :
    runRs kn d (rs.take (i + 1)) st = runR kn d r (runRs kn d (rs.take i) st).1 := by
  rw [take_more h, runRs_append, hf]
  simp only [runRs, if_neg (Bool.false_ne_true)]
  by_cases h2 : (runR kn d r (runRs kn d (rs.take i) st).1).2 = true
  · rw [if_pos h2]
    exact Prod.ext rfl h2.symm
  · rw [if_neg h2]
    exact Prod.ext rfl (by simpa using h2)
theorem runRs_stop {kn : Str → Str} {d : Str} {rs : List Row} {st : RS} {i : Nat} {r : Row} (h : rs[i]? = some r) (hf : (runRs kn d (rs.take i) st).2 = false)
    (ht : (runR kn d r (runRs kn d (rs.take i) st).1).2 = true) : runRs kn d rs st = runR kn d r (runRs kn d (rs.take i) st).1 := by
  have e : rs = rs.take (i + 1) ++ rs.drop (i + 1) := (List.take_append_drop _ _).symm
  have e2 := runRs_next h hf
  rw [e, runRs_append, ← e, e2, if_pos ht]
/-- no list of the run is long -/
structure RS.Few (st : RS) (n : Nat) : Prop where
  sl : st.slots.length ≤ n
  no : st.noted.length ≤ n
  pe : st.peeked.length ≤ n
  sa : st.said.length ≤ n
  wr : st.written.length ≤ n
theorem RS.Few.mono {st : RS} {n m : Nat} (h : st.Few n) (l : n ≤ m) : st.Few m := ⟨Nat.le_trans h.sl l, Nat.le_trans h.no l, Nat.le_trans h.pe l, Nat.le_trans h.sa l, Nat.le_trans h.wr l⟩
mutual
theorem few_R (kn : Str → Str) (d : Str) : ∀ (r : Row) (st : RS) (n : Nat), st.Few n → (runR kn d r st).1.Few (n + Td.cnt r)
  | .rd pk c s, st, n, h => by
    have h1 := putE_len st.slots s (kn c)
    have h2 := sdE_len st.noted c (kn c)
    have h3 := sdE_len st.peeked c (kn c)
    have a := h.sl; have b := h.no; have c' := h.pe; have d' := h.sa; have e := h.wr
    cases pk <;> simp only [runR, Td.cnt] <;> refine ⟨?_, ?_, ?_, ?_, ?_⟩ <;> simp <;> omega
  | .put s u, st, n, h => by
    have h1 := putE_len st.slots s u
    have a := h.sl; have b := h.no; have c' := h.pe; have d' := h.sa; have e := h.wr
    simp only [runR, Td.cnt]; refine ⟨?_, ?_, ?_, ?_, ?_⟩ <;> simp <;> omega
  | .give s, st, n, h => by
    have a := h.sl; have b := h.no; have c' := h.pe; have d' := h.sa; have e := h.wr
    simp only [runR, Td.cnt]; refine ⟨?_, ?_, ?_, ?_, ?_⟩ <;> simp <;> omega
  | .say s, st, n, h => by
    have a := h.sl; have b := h.no; have c' := h.pe; have d' := h.sa; have e := h.wr
    simp only [runR, Td.cnt]; refine ⟨?_, ?_, ?_, ?_, ?_⟩ <;> simp <;> omega
  | .wr c s, st, n, h => by
    have a := h.sl; have b := h.no; have c' := h.pe; have d' := h.sa; have e := h.wr
    simp only [runR, Td.cnt]; refine ⟨?_, ?_, ?_, ?_, ?_⟩ <;> simp <;> omega
  | .ite s u y m, st, n, h => by
    simp only [runR, Td.cnt]
    split
    · exact (few_Rs kn d y st n h).mono (by omega)
    · exact (few_Rs kn d m st n h).mono (by omega)
theorem few_Rs (kn : Str → Str) (d : Str) : ∀ (rs : List Row) (st : RS) (n : Nat), st.Few n → (runRs kn d rs st).1.Few (n + cnts rs)
  | [], st, n, h => by simp only [runRs]; exact h.mono (Nat.le_add_right _ _)
  | r :: rs, st, n, h => by
    have h1 := few_R kn d r st n h
    simp only [runRs, cnts]
    split
    · exact h1.mono (by omega)
    · exact (few_Rs kn d rs _ _ h1).mono (by omega)
end
/-! ### the run's object -/
structure RA where
  ra : Addr
  kd : Addr
  ps : Addr
  pn : Addr
  pp : Addr
  pd : Addr
  pw : Addr
  d : Str
def RA.fldsV (A : RA) (v : V) : List (Str × V) := [("noted", .ref A.pn), ("peeked", .ref A.pp), ("said", .ref A.pd), ("written", .ref A.pw), ("given", v), ("default", .str A.d), ("known", .ref A.kd), ("slots", .ref A.ps)]
def RA.flds (A : RA) (g : Str) : List (Str × V) := A.fldsV (.str g)
def wrD (p : Str × Str) : PyData := .tuple [.str p.1, .str p.2]
structure RunAt (K : PySem.W.Frag) (C : Addr) (A : RA) (H0 H : Hp) (st : RS) : Prop where
  same : Same H0 H
  f0 : H0 A.ra = none
  f1 : H0 A.ps = none
  f2 : H0 A.pn = none
  f3 : H0 A.pp = none
  f4 : H0 A.pd = none
  f5 : H0 A.pw = none
  n1 : A.ps ≠ A.pn
  n2 : A.ps ≠ A.pp
  n3 : A.pn ≠ A.pp
  n4 : A.pd ≠ A.pw
  ob : ∃ dx, H A.ra = some (.ins C dx (A.flds st.given))
  sl : H A.ps = some (.dK (kv st.slots))
  no : H A.pn = some (.dK (kv st.noted))
  pe : H A.pp = some (.dK (kv st.peeked))
  sa : H A.pd = some (.lst (st.said.map V.str))
  wr : ∃ xs, H A.pw = some (.lst xs) ∧ TnAll K H xs (st.written.map wrD)
section
variable {K : PySem.W.Frag} {C : Addr} {A : RA} {H0 H H' : Hp} {st : RS}
theorem own_same {H0 H : Hp} {p : Addr} {o : HO} (k : Same H0 H) (h : H0 p = none) : Same H0 (upd H p o) := fun b u e => by
  rw [upd_ne (ne_of_none e h)]; exact k b u e
theorem RunAt.go (h : RunAt K C A H0 H st) (s : Same H H') : RunAt K C A H0 H' st := by
  obtain ⟨dx, e⟩ := h.ob
  obtain ⟨xs, e1, e2⟩ := h.wr
  exact ⟨h.same.trans s, h.f0, h.f1, h.f2, h.f3, h.f4, h.f5, h.n1, h.n2, h.n3, h.n4, ⟨dx, s _ _ e⟩, s _ _ h.sl, s _ _ h.no, s _ _ h.pe, s _ _ h.sa, ⟨xs, s _ _ e1, TnAll.keep (TK.of_same s) e2⟩⟩
theorem RunAt.slots (h : RunAt K C A H0 H st) (L : Env) : RunAt K C A H0 (upd H A.ps (.dK (kv L))) { st with slots := L } := by
  obtain ⟨dx, e⟩ := h.ob
  obtain ⟨xs, e1, e2⟩ := h.wr
  exact ⟨own_same h.same h.f1, h.f0, h.f1, h.f2, h.f3, h.f4, h.f5, h.n1, h.n2, h.n3, h.n4, ⟨dx, by rw [upd_ne (ne_of e h.sl (by intro z; cases z))]; exact e⟩, upd_same, by rw [upd_ne (Ne.symm h.n1)]; exact h.no, by rw [upd_ne (Ne.symm h.n2)]; exact h.pe,
    by rw [upd_ne (ne_of h.sa h.sl (by intro z; cases z))]; exact h.sa, ⟨xs, by rw [upd_ne (ne_of e1 h.sl (by intro z; cases z))]; exact e1, TnAll.keep (TK.upd (by rw [h.sl]; trivial)) e2⟩⟩
theorem RunAt.noted (h : RunAt K C A H0 H st) (L : Env) : RunAt K C A H0 (upd H A.pn (.dK (kv L))) { st with noted := L } := by
  obtain ⟨dx, e⟩ := h.ob
  obtain ⟨xs, e1, e2⟩ := h.wr
  exact ⟨own_same h.same h.f2, h.f0, h.f1, h.f2, h.f3, h.f4, h.f5, h.n1, h.n2, h.n3, h.n4, ⟨dx, by rw [upd_ne (ne_of e h.no (by intro z; cases z))]; exact e⟩, by rw [upd_ne h.n1]; exact h.sl, upd_same, by rw [upd_ne (Ne.symm h.n3)]; exact h.pe,
    by rw [upd_ne (ne_of h.sa h.no (by intro z; cases z))]; exact h.sa, ⟨xs, by rw [upd_ne (ne_of e1 h.no (by intro z; cases z))]; exact e1, TnAll.keep (TK.upd (by rw [h.no]; trivial)) e2⟩⟩
theorem RunAt.peeked (h : RunAt K C A H0 H st) (L : Env) : RunAt K C A H0 (upd H A.pp (.dK (kv L))) { st with peeked := L } := by
  obtain ⟨dx, e⟩ := h.ob
  obtain ⟨xs, e1, e2⟩ := h.wr
  exact ⟨own_same h.same h.f3, h.f0, h.f1, h.f2, h.f3, h.f4, h.f5, h.n1, h.n2, h.n3, h.n4, ⟨dx, by rw [upd_ne (ne_of e h.pe (by intro z; cases z))]; exact e⟩, by rw [upd_ne h.n2]; exact h.sl, by rw [upd_ne h.n3]; exact h.no, upd_same,
    by rw [upd_ne (ne_of h.sa h.pe (by intro z; cases z))]; exact h.sa, ⟨xs, by rw [upd_ne (ne_of e1 h.pe (by intro z; cases z))]; exact e1, TnAll.keep (TK.upd (by rw [h.pe]; trivial)) e2⟩⟩
theorem RunAt.say (h : RunAt K C A H0 H st) (L : List Str) : RunAt K C A H0 (upd H A.pd (.lst (L.map V.str))) { st with said := L } := by
  obtain ⟨dx, e⟩ := h.ob
  obtain ⟨xs, e1, e2⟩ := h.wr
  exact ⟨own_same h.same h.f4, h.f0, h.f1, h.f2, h.f3, h.f4, h.f5, h.n1, h.n2, h.n3, h.n4, ⟨dx, by rw [upd_ne (ne_of e h.sa (by intro z; cases z))]; exact e⟩, by rw [upd_ne (ne_of h.sl h.sa (by intro z; cases z))]; exact h.sl, by rw [upd_ne (ne_of h.no h.sa (by intro z; cases z))]; exact h.no,
    by rw [upd_ne (ne_of h.pe h.sa (by intro z; cases z))]; exact h.pe, upd_same, ⟨xs, by rw [upd_ne (Ne.symm h.n4)]; exact e1, TnAll.keep (TK.upd (by rw [h.sa]; trivial)) e2⟩⟩
theorem RunAt.write (h : RunAt K C A H0 H st) {xs : List V} {L : Env} (e1 : H A.pw = some (.lst xs)) {ys : List V} (e2 : TnAll K H ys (L.map wrD)) : RunAt K C A H0 (upd H A.pw (.lst ys)) { st with written := L } := by
  obtain ⟨dx, e⟩ := h.ob
  exact ⟨own_same h.same h.f5, h.f0, h.f1, h.f2, h.f3, h.f4, h.f5, h.n1, h.n2, h.n3, h.n4, ⟨dx, by rw [upd_ne (ne_of e e1 (by intro z; cases z))]; exact e⟩, by rw [upd_ne (ne_of h.sl e1 (by intro z; cases z))]; exact h.sl, by rw [upd_ne (ne_of h.no e1 (by intro z; cases z))]; exact h.no,
    by rw [upd_ne (ne_of h.pe e1 (by intro z; cases z))]; exact h.pe, by rw [upd_ne h.n4]; exact h.sa, ⟨ys, upd_same, TnAll.keep (TK.upd (by rw [e1]; trivial)) e2⟩⟩
theorem RunAt.give (h : RunAt K C A H0 H st) (g : Str) {dx : Addr} (e : H A.ra = some (.ins C dx (A.flds st.given))) : RunAt K C A H0 (upd H A.ra (.ins C dx (A.flds g))) { st with given := g } := by
  obtain ⟨xs, e1, e2⟩ := h.wr
  exact ⟨own_same h.same h.f0, h.f0, h.f1, h.f2, h.f3, h.f4, h.f5, h.n1, h.n2, h.n3, h.n4, ⟨dx, upd_same⟩, by rw [upd_ne (ne_of h.sl e (by intro z; cases z))]; exact h.sl, by rw [upd_ne (ne_of h.no e (by intro z; cases z))]; exact h.no,
    by rw [upd_ne (ne_of h.pe e (by intro z; cases z))]; exact h.pe, by rw [upd_ne (ne_of h.sa e (by intro z; cases z))]; exact h.sa, ⟨xs, by rw [upd_ne (ne_of e1 e (by intro z; cases z))]; exact e1, TnAll.keep (TK.upd (by rw [e]; trivial)) e2⟩⟩
end
section
variable (A : RA) (g g' : Str)
theorem fl_default : (A.flds g).lookup ("default" : Str) = some (.str A.d) := by kernel_rfl
theorem fl_known : (A.flds g).lookup ("known" : Str) = some (.ref A.kd) := by kernel_rfl
theorem fl_slots : (A.flds g).lookup ("slots" : Str) = some (.ref A.ps) := by kernel_rfl
theorem fl_noted : (A.flds g).lookup ("noted" : Str) = some (.ref A.pn) := by kernel_rfl
theorem fl_peeked : (A.flds g).lookup ("peeked" : Str) = some (.ref A.pp) := by kernel_rfl
theorem fl_said : (A.flds g).lookup ("said" : Str) = some (.ref A.pd) := by kernel_rfl
theorem fl_written : (A.flds g).lookup ("written" : Str) = some (.ref A.pw) := by kernel_rfl
theorem fl_given : (A.flds g).lookup ("given" : Str) = some (.str g) := by kernel_rfl
theorem fl_none : (A.flds g).lookup ("word_in" : Str) = none := by kernel_rfl
theorem fl_none2 (v : V) : (A.fldsV v).lookup ("parts" : Str) = none := by kernel_rfl
theorem fv_noted (v : V) : (A.fldsV v).lookup ("noted" : Str) = some (.ref A.pn) := by kernel_rfl
theorem fv_peeked (v : V) : (A.fldsV v).lookup ("peeked" : Str) = some (.ref A.pp) := by kernel_rfl
theorem fv_said (v : V) : (A.fldsV v).lookup ("said" : Str) = some (.ref A.pd) := by kernel_rfl
theorem fv_written (v : V) : (A.fldsV v).lookup ("written" : Str) = some (.ref A.pw) := by kernel_rfl
theorem fv_given (v : V) : (A.fldsV v).lookup ("given" : Str) = some v := by kernel_rfl
theorem fl_giveV (v : V) : putF "given" v (A.flds g) = A.fldsV v := by kernel_rfl
theorem fl_give : putF "given" (.str g') (A.flds g) = A.flds g' := by kernel_rfl
end
end Td
/-! dict(zip(t, u)) of two tuples as long as each other. -/
namespace Td
open PySem
section
variable {prog : Program} {w : World} {A : Around} {E : Value → Shared → Prop} {s : Shared} {z TI TO T i1 i2 : Addr} {f : Bool} {oT : Obj} {fp1 fp2 : List Addr} {n1 n2 i : Nat} {P1 P2 : Nat → Value → Prop} {St1 St2 : Nat → Heap → Prop}
/-- the next pair, the one ahead still held -/
theorem held_item {Q : Value → Shared → Prop} (S : ZipSep2 z TI TO i1 i2 fp1 fp2) (D1 : Draws prog w A i1 fp1 n1 P1 St1) (D2 : Draws prog w A i2 fp2 n2 P2 St2)
    (hz : IsZipHeld s.heap z TI TO T f) (hT : s.heap.get? T = some oT) (hTI : IsTupOf2 s.heap TI (.ref i1) (.ref i2)) (u1 : St1 i s.heap) (u2 : St2 i s.heap) (l1 : i < n1) (l2 : i < n2)
    (hQ : ∀ x y h' tk, P1 i x → P2 i y → IsZipHeld h' z TI TO T true → St1 (i + 1) h' → St2 (i + 1) h' → IsTupOf2 h' s.heap.objs.size x y →
      (∀ c o, c ≠ z → c ≠ i1 → c ≠ i2 → s.heap.get? c = some o → h'.get? c = some o) → Q (.ref s.heap.objs.size) { s with heap := h', toks := tk }) :
    wpAny (model prog w) A (Builtin.«zip.__next__» ⟨[.ref z], []⟩) (fun fin s' => ∃ v, fin = .done (.ret v) ∧ Q v s') E s := by
  obtain ⟨h0, gl, dd, t0, ow⟩ := s
  show wpAny _ _ (field (.ref z) 2 >>= _) _ _ _
  refine wpAny_bind (wpAny_field hz rfl (x := .bool false) rfl ?_)
  show wpAny _ _ (field (.ref z) 3 >>= _) _ _ _
  refine wpAny_bind (wpAny_field hz rfl (x := .ref TI) rfl (wpAny_bind (wpAny_seqItems hTI rfl ?_)))
  show wpAny _ _ (Builtin.SmallTypes.ownedTupleIsFree (.ref z) >>= _) _ _ _
  refine wpAny_bind (wpAny_tupleHeld_zip hz hT fun h1 z1 k1 => ?_)
  replace k1 : Heap.SameBut z h0 h1 := k1
  simp only [Bool.false_eq_true, if_false]
  refine wpAny_bind ?_
  rw [← Array.forIn_toList]
  simp only [List.forIn_cons, List.forIn_nil]
  refine wpAny_bind (wpAny_bind (wpAny_holding ?_))
  show wpAny _ _ (Builtin.SmallTypes.nextOf (.ref i1) >>= _) _ _ ⟨h1, gl, dd, t0, ow⟩
  refine wpAny_bind (D1.item i _ _ _ l1 (D1.over u1 k1 S.zf1) fun x h2 t2 px v1 k2 => wpAny_pure (wpAny_pure ?_))
  replace k2 : Heap.SameBut i1 h1 h2 := k2
  refine wpAny_bind (wpAny_bind (wpAny_holding ?_))
  show wpAny _ _ (Builtin.SmallTypes.nextOf (.ref i2) >>= _) _ _ ⟨h2, gl, dd, t2, ow⟩
  refine wpAny_bind (D2.item i _ _ _ l2 (D2.over (D2.over u2 k1 S.zf2) k2 S.sep1_2) fun y h3 t3 py v2 k3 => wpAny_pure (wpAny_pure (wpAny_pure ?_)))
  replace k3 : Heap.SameBut i2 h2 h3 := k3
  show wpAny _ _ (newTuple [x, y] >>= _) _ _ _
  refine wpAny_bind (wpAny_newTuple ?_)
  have up : ∀ c o, c ≠ z → c ≠ i1 → c ≠ i2 → h0.get? c = some o → h3.get? c = some o := fun c o a b d e => k3.extBut _ _ d (k2.extBut _ _ b (k1.extBut _ _ a e))
  have es : h3.objs.size = h0.objs.size := by rw [k3.1, k2.1, k1.1]
  have nw : IsTupOf2 (h3.push { cls := .type "tuple", data := .seq #[x, y] }) h3.objs.size x y := Heap.get?_push_size _ rfl
  refine wpAny_pure ⟨_, rfl, ?_⟩
  rw [es] at nw
  show Q (.ref h3.objs.size) _
  rw [es]
  exact hQ x y _ t3 px py (Heap.get?_push_of_some _ (k3.extBut _ _ S.zi2 (k2.extBut _ _ S.zi1 z1)))
    (D1.frame _ _ _ (D1.over v1 k3 S.sep2_1) fun b _ o e => Heap.get?_push_of_some _ e) (D2.frame _ _ _ v2 fun b _ o e => Heap.get?_push_of_some _ e) nw fun c o a b d e => Heap.get?_push_of_some _ (up c o a b d e)
/-- no pair behind the last, the one ahead still held -/
theorem held_end {Q : Fin → Shared → Prop} (S : ZipSep2 z TI TO i1 i2 fp1 fp2) (D1 : Draws prog w A i1 fp1 n1 P1 St1)
    (hz : IsZipHeld s.heap z TI TO T f) (hT : s.heap.get? T = some oT) (hTI : IsTupOf2 s.heap TI (.ref i1) (.ref i2)) (u1 : St1 n1 s.heap)
    (hE : ∀ h' e, (∀ c o, c ≠ z → c ≠ i1 → s.heap.get? c = some o → h'.get? c = some o) → (∃ o, h'.get? e = some o ∧ o.cls = .type "StopIteration") → E (.ref e) { s with heap := h' }) :
    wpAny (model prog w) A (Builtin.«zip.__next__» ⟨[.ref z], []⟩) Q E s := by
  show wpAny _ _ (field (.ref z) 2 >>= _) _ _ _
  refine wpAny_bind (wpAny_field hz rfl (x := .bool false) rfl ?_)
  show wpAny _ _ (field (.ref z) 3 >>= _) _ _ _
  refine wpAny_bind (wpAny_field hz rfl (x := .ref TI) rfl (wpAny_bind (wpAny_seqItems hTI rfl ?_)))
  show wpAny _ _ (Builtin.SmallTypes.ownedTupleIsFree (.ref z) >>= _) _ _ _
  refine wpAny_bind (wpAny_tupleHeld_zip hz hT fun h1 z1 k1 => ?_)
  simp only [Bool.false_eq_true, if_false]
  refine wpAny_bind ?_
  rw [← Array.forIn_toList]
  simp only [List.forIn_cons, List.forIn_nil]
  refine wpAny_bind (wpAny_bind (wpAny_holding ?_))
  show wpAny _ _ (Builtin.SmallTypes.nextOf (.ref i1) >>= _) _ _ _
  exact wpAny_bind (D1.done { s with heap := h1 } _ _ (D1.over u1 k1 S.zf1) fun h2 e k2 he => hE h2 e (fun c o a b x => k2 _ _ b (k1.extBut _ _ a x)) he)
theorem next_held_item {Q : Option Value → Shared → Prop} (S : ZipSep2 z TI TO i1 i2 fp1 fp2) (D1 : Draws prog w A.in1 i1 fp1 n1 P1 St1) (D2 : Draws prog w A.in1 i2 fp2 n2 P2 St2)
    (hz : IsZipHeld s.heap z TI TO T f) (hT : s.heap.get? T = some oT) (hTI : IsTupOf2 s.heap TI (.ref i1) (.ref i2)) (u1 : St1 i s.heap) (u2 : St2 i s.heap) (l1 : i < n1) (l2 : i < n2)
    (hQ : ∀ x y h' tk, P1 i x → P2 i y → IsZipHeld h' z TI TO T true → St1 (i + 1) h' → St2 (i + 1) h' → IsTupOf2 h' s.heap.objs.size x y →
      (∀ c o, c ≠ z → c ≠ i1 → c ≠ i2 → s.heap.get? c = some o → h'.get? c = some o) → Q (some (.ref s.heap.objs.size)) { s with heap := h', toks := tk }) :
    wpAny (model prog w) A (pyNext (.ref z)) Q E s := by
  have ty : s.TypeIs (.ref z) "zip" := ⟨_, hz, rfl⟩
  unfold pyNext
  refine wpAny_bind (wpAny_attempt (wpAny_callSpecial?_slot (name := Str.ofString "__next__") ty F.slot_zip_next (wpAny_call_entry F.slot_zip_next ty F.entry_zip_next ?_ (F.args_zip_next_1 _))))
  exact held_item S D1 D2 hz hT hTI u1 u2 l1 l2 fun x y h' tk a b c d e g k => wpAny_pure (hQ x y h' tk a b c d e g k)
theorem next_held_end {Q : Option Value → Shared → Prop} (S : ZipSep2 z TI TO i1 i2 fp1 fp2) (D1 : Draws prog w A.in1 i1 fp1 n1 P1 St1)
    (hz : IsZipHeld s.heap z TI TO T f) (hT : s.heap.get? T = some oT) (hTI : IsTupOf2 s.heap TI (.ref i1) (.ref i2)) (u1 : St1 n1 s.heap)
    (hQ : ∀ h', (∀ c o, c ≠ z → c ≠ i1 → s.heap.get? c = some o → h'.get? c = some o) → Q none { s with heap := h' }) :
    wpAny (model prog w) A (pyNext (.ref z)) Q E s := by
  have ty : s.TypeIs (.ref z) "zip" := ⟨_, hz, rfl⟩
  unfold pyNext
  refine wpAny_bind (wpAny_attempt (wpAny_callSpecial?_slot (name := Str.ofString "__next__") ty F.slot_zip_next (wpAny_call_entry F.slot_zip_next ty F.entry_zip_next ?_ (F.args_zip_next_1 _))))
  refine held_end S D1 hz hT hTI u1 fun h' e k he => ?_
  obtain ⟨o, ho, hc⟩ := he
  exact wpAny_bind (wpAny_isInstance (T := "StopIteration") (b := true) ⟨o, ho, hc⟩ isSubtype_stop (wpAny_pure (hQ _ k)))
end
theorem apart {h : Heap} {it l a : Addr} {i : Nat} {xs : Array Value} (p : h.IsTupleIter it l i) (q : h.IsTuple a xs) : a ≠ it := by
  intro e
  subst e
  obtain ⟨o, e1, c1, _⟩ := p
  obtain ⟨u, e2, c2, _⟩ := q
  rw [e1] at e2
  cases e2
  rw [c1] at c2
  injection c2 with c2
  exact absurd c2 (by decide)
/-- zip(t, u) as the argument of dict() -/
theorem zipTup {prog : Program} {w : World} (z TI TO i1 i2 a b : Addr) (S : ZipSep2 z TI TO i1 i2 [i1, a] [i2, b]) (xs ys : Array Value) (hl : xs.size = ys.size) :
    PairArg prog w "zip" z [z, TI, TO, i1, a, i2, b] [z, TO, i1, i2] xs.size (fun i k v => xs[i]? = some k ∧ ys[i]? = some v)
      (fun h => IsZip h z TI TO .none ∧ IsTupOf2 h TI (.ref i1) (.ref i2) ∧ IsTupOf2 h TO .none .none ∧ (h.IsTupleIter i1 a 0 ∧ h.IsTuple a xs) ∧ h.IsTupleIter i2 b 0 ∧ h.IsTuple b ys) where
  type := fun s o => ⟨_, o.1, rfl⟩
  notDict := by decide
  keep := fun h h' ⟨q1, q2, q3, ⟨q4, q5⟩, q6, q7⟩ k => ⟨k _ _ q1, k _ _ q2, k _ _ q3, ⟨q4.at fun o => k _ o, q5.at fun o => k _ o⟩, q6.at fun o => k _ o, q7.at fun o => k _ o⟩
  there := fun h ⟨q1, q2, q3, ⟨⟨o4, q4, _⟩, o5, q5, _⟩, ⟨o6, q6, _⟩, o7, q7, _⟩ c hc => by
    simp only [List.mem_cons, List.not_mem_nil, or_false] at hc
    rcases hc with e | e | e | e | e | e | e <;> subst e
    · exact ⟨_, q1⟩
    · exact ⟨_, q2⟩
    · exact ⟨_, q3⟩
    · exact ⟨_, q4⟩
    · exact ⟨_, q5⟩
    · exact ⟨_, q6⟩
    · exact ⟨_, q7⟩
  sub := fun c hc => by
    simp only [List.mem_cons, List.not_mem_nil, or_false] at hc ⊢
    rcases hc with e | e | e | e <;> simp [e]
  noKeys := fun A s Q E hA o h => getAttrOr_miss_zip o.1 rfl rfl rfl zip_no_keys (by decide +kernel) hA h
  iter := fun A s d Q E hA ⟨q1, q2, q3, q4, q6⟩ hd hf h => by
    simp only [List.mem_cons, List.not_mem_nil, or_false, not_or] at hf
    obtain ⟨dz, dI, dO, d1, da, d2, db⟩ := hf
    have D1 := Draws.tuple (prog := prog) (w := w) (A := A.in1) hA i1 a (apart q4.1 q4.2) xs
    have D2 := Draws.tuple (prog := prog) (w := w) (A := A.in1) hA i2 b (apart q6.1 q6.2) ys
    refine wpAny_pyIter_zip q1 (h z [z, TO, i1, i2] (fun i g => IsTupOf2 g TI (.ref i1) (.ref i2) ∧ (g.IsTupleIter i1 a i ∧ g.IsTuple a xs) ∧ (g.IsTupleIter i2 b i ∧ g.IsTuple b ys) ∧
      ((IsZip g z TI TO .none ∧ IsTupOf2 g TO .none .none) ∨ ∃ T f oT, IsZipHeld g z TI TO T f ∧ g.get? T = some oT ∧ T ≠ z ∧ T ≠ i1 ∧ T ≠ i2 ∧ T ≠ d)) s.heap s.toks ?_ ⟨q2, q4, q6, .inl ⟨q1, q3⟩⟩ (fun _ _ e => e) fun c hc => .inl hc)
    refine ⟨fun hm => ?_, fun i g g' st k => ?_, fun i s1 Q1 E1 hi st hds hQ => ?_, fun s1 Q1 E1 st hQ => ?_⟩
    · simp only [List.mem_cons, List.not_mem_nil, or_false] at hm
      rcases hm with e | e | e | e
      · exact dz e
      · exact dO e
      · exact d1 e
      · exact d2 e
    · obtain ⟨p1, ⟨p2, p3⟩, ⟨p4, p5⟩, p6⟩ := st
      refine ⟨k _ _ (Ne.symm dI) p1, ⟨p2.at fun o => k _ o (Ne.symm d1), p3.at fun o => k _ o (Ne.symm da)⟩, ⟨p4.at fun o => k _ o (Ne.symm d2), p5.at fun o => k _ o (Ne.symm db)⟩, ?_⟩
      rcases p6 with ⟨r1, r2⟩ | ⟨T, f, oT, r1, r2, r3, r4, r5, r6⟩
      · exact .inl ⟨k _ _ (Ne.symm dz) r1, k _ _ (Ne.symm dO) r2⟩
      · exact .inr ⟨T, f, oT, k _ _ (Ne.symm dz) r1, k _ _ r6 r2, r3, r4, r5, r6⟩
    · obtain ⟨p1, p2, p4, p6⟩ := st
      have old : ∀ {c o}, s1.heap.get? c = some o → s1.heap.objs.size ≠ c := fun e => Nat.ne_of_gt (Heap.lt_size e)
      have m1 : s1.heap.objs.size ≠ i1 := let ⟨⟨_, e, _⟩, _⟩ := p2; old e
      have m2 : s1.heap.objs.size ≠ i2 := let ⟨⟨_, e, _⟩, _⟩ := p4; old e
      rcases p6 with ⟨r1, r2⟩ | ⟨T, f, oT, r1, r2, r3, r4, r5, r6⟩
      · refine wpAny_pyNext_zipD2_item S D1 D2 r1 p1 r2 p2 p4 hi (hl ▸ hi) fun x y h' tk px py b1 _ c1 c2 b5 _ k => ?_
        exact hQ _ x y h' tk ⟨px, py⟩ (.inl ⟨_, b5, rfl, _, rfl⟩) ⟨k _ _ S.TIz S.TITO S.TIi1 S.TIi2 p1, c1, c2, .inr ⟨_, false, _, b1, b5, old r1, m1, m2, Nat.ne_of_gt hds⟩⟩
          fun c o hc e => k c o (fun v => hc (by simp [v])) (fun v => hc (by simp [v])) (fun v => hc (by simp [v])) (fun v => hc (by simp [v])) e
      · refine next_held_item S D1 D2 r1 r2 p1 p2 p4 hi (hl ▸ hi) fun x y h' tk px py b1 c1 c2 b5 k => ?_
        exact hQ _ x y h' tk ⟨px, py⟩ (.inl ⟨_, b5, rfl, _, rfl⟩) ⟨k _ _ S.TIz S.TIi1 S.TIi2 p1, c1, c2, .inr ⟨T, true, oT, b1, k _ _ r3 r4 r5 r2, r3, r4, r5, r6⟩⟩
          fun c o hc e => k c o (fun v => hc (by simp [v])) (fun v => hc (by simp [v])) (fun v => hc (by simp [v])) e
    · obtain ⟨p1, p2, p4, p6⟩ := st
      rcases p6 with ⟨r1, r2⟩ | ⟨T, f, oT, r1, r2, r3, r4, r5, r6⟩
      · exact wpAny_pyNext_zipD2_end S D1 D2 r1 p1 r2 p2 p4 (Nat.le_refl _) (by omega) (.inl rfl) fun h' tk k => hQ h' tk fun c o hc e => k c o (fun v => hc (by simp [v])) (fun v => hc (by simp [v])) (fun v => hc (by simp [v])) (fun v => hc (by simp [v])) e
      · exact next_held_end S D1 r1 r2 p1 p2 fun h' k => hQ h' s1.toks fun c o hc e => k c o (fun v => hc (by simp [v])) (fun v => hc (by simp [v])) e
open PySem.Spec PyProof.Rows L2
/-- dict(zip(..)) of tuples with keys for items -/
def tDictZip (K : PySem.W.Frag) (t : TA) : TE := fun σ H Q => t σ H fun vs H1 => ∃ (a b : Addr) (ks : List Key) (ys : List V), vs = [.ref a, .ref b] ∧ SqT K H1 a (ks.map kV) ∧ SqT K H1 b ys ∧ ks.length = ys.length ∧
  ∀ p, H1 p = none → Q (.ref p) (upd H1 p (.dK (mergeK [] (ks.zip ys))))
theorem zip_rel : ∀ {ks : List Key} {ys : List V} {us vs : List Value}, Vals (ks.map kV) us → Vals ys vs → ks.length = ys.length →
    KV (ks.zip ys) (ks.zip vs) ∧ us.length = ks.length ∧ ∀ (i : Nat) (k v : Value), us[i]? = some k → vs[i]? = some v → ∃ c, (ks.zip vs)[i]? = some (c, v) ∧ ∀ (P : Program) (w : World), (mixKind P w).is c k = true
  | [], [], _, _, .nil, .nil, _ => ⟨.nil, rfl, fun i k v h => by simp at h⟩
  | c :: ks, y :: ys, _, _, .cons r1 t1, .cons r2 t2, h => by
    obtain ⟨p1, p2, p3⟩ := zip_rel t1 t2 (by simpa using h)
    refine ⟨.cons ⟨rfl, r2⟩ p1, by rw [List.length_cons, List.length_cons, p2], fun i k v h1 h2 => ?_⟩
    cases i with
    | zero =>
      simp at h1 h2
      subst h1 h2
      exact ⟨c, rfl, fun P w => kV_is r1⟩
    | succ i => exact p3 i k v (by simpa using h1) (by simpa using h2)
theorem sepNat (n a b : Nat) (ha : a < n) (hb : b < n) : ZipSep2 (n + 4) (n + 2) (n + 3) n (n + 1) [n, a] [n + 1, b] := by
  have k1 : ∀ i : Nat, 0 < i → n + i ≠ n := fun i h => by omega
  have k2 : ∀ i j : Nat, i ≠ j → n + i ≠ n + j := fun i j h => by omega
  have k3 : ∀ i : Nat, n + i ≠ a := fun i => by omega
  have k4 : ∀ i : Nat, n + i ≠ b := fun i => by omega
  have k5 : n ≠ b := by omega
  have k6 : n ≠ a := by omega
  refine ⟨k2 2 4 (by decide), k2 3 4 (by decide), k2 2 3 (by decide), k1 2 (by decide), List.mem_cons_self, fun h => ?_, fun h => ?_, k2 2 1 (by decide), List.mem_cons_self, fun h => ?_, fun h => ?_, fun h => ?_, fun h => ?_⟩ <;>
    rcases List.mem_cons.mp h with h | h
  · exact k1 4 (by decide) h
  · exact k3 4 (List.mem_singleton.mp h)
  · exact k1 3 (by decide) h
  · exact k3 3 (List.mem_singleton.mp h)
  · exact k2 4 1 (by decide) h
  · exact k4 4 (List.mem_singleton.mp h)
  · exact k2 3 1 (by decide) h
  · exact k4 3 (List.mem_singleton.mp h)
  · exact k1 1 (by decide) h.symm
  · exact k5 (List.mem_singleton.mp h)
  · exact k1 1 (by decide) h
  · exact k3 1 (List.mem_singleton.mp h)
theorem notNew (n c : Nat) (h : c < n) : c ∉ [n + 4, n + 3, n, n + 1] := by
  intro m
  simp only [List.mem_cons, List.not_mem_nil, or_false] at m
  omega
theorem merge_len (ks : List Key) (ys : List V) : (mergeK [] (ks.zip ys)).length ≤ ks.length := by
  refine Nat.le_trans (length_mergeK (ks.zip ys) []) ?_
  rw [List.length_nil, Nat.zero_add, List.length_zip]
  exact Nat.min_le_left ..
theorem pe_dictZip {X : Cx} {e e2 : Expr} {t : TA} {p p2 pos pos2 : Pos} (hc : X.calm = true) (gd : Gl X "dict") (md : X.mg "dict" = none) (gz : Gl X "zip") (mz : X.mg "zip" = none) (ha : PA X [e, e2] t)
    (hs : starEach [e, e2] X.env = (false, eval e X.env) :: starEach [e2] X.env := by rfl) (hpl : (backTo pos2 (starEach [e2] X.env)).any (·.1) = false := by rfl)
    (ho : starEach [.Call (.Name "zip" p2) [e, e2] [] pos2] X.env = (false, eval (.Call (.Name "zip" p2) [e, e2] [] pos2) X.env) :: starEach [] X.env := by rfl) :
    PE X (.Call (.Name "dict" p) [.Call (.Name "zip" p2) [e, e2] [] pos2] [] pos) (tDictZip X.K t) := by
  refine ⟨fun pins s σ H Q I h => ?_⟩
  refine wpAny_Call_Name_kw (ld_blt I gd md PyProof.Rows.boot_dict ?_)
  refine PyProof.Rows.callWith_type1 ?_ ho rfl
  rw [ho]
  show wpAny _ _ (spliced ((false, eval (.Call (.Name "zip" p2) [e, e2] [] pos2) X.env) :: backTo pos (starEach [] X.env))) _ _ s
  refine Calls.spliced_cons ?_
  refine wpAny_Call_Name_kw (ld_blt I gz mz PyProof.Rows.boot_zip (PyProof.Rows.callWith_type1 (thn (ha.run pos2 pins s σ H _ I h) fun us s1 ⟨vs, H1, I1, r1, a, b, ks, ys, ev, hA, hB, hl, q⟩ => ?_) hs hpl))
  subst ev
  obtain ⟨u1, u2, eu, ra, rb⟩ := vals2 r1
  subst eu
  cases ra
  cases rb
  obtain ⟨xs', va, ta, za⟩ := I1.tuple hA
  obtain ⟨ys', vb, tb, zb⟩ := I1.tuple hB
  obtain ⟨o1, ho1, _⟩ := id ta
  obtain ⟨o2, ho2, _⟩ := id tb
  obtain ⟨hrel, hlen, hks⟩ := zip_rel va vb hl
  have ka : s1.heap.IsTuple a xs'.toArray := ta
  have kb : s1.heap.IsTuple b ys'.toArray := tb
  have lb := vb.length
  have big : sysModules < s1.heap.objs.size := I1.big
  have xl : xs'.length ≤ sizeLine := by rw [hlen, ← List.length_map (f := kV) (as := ks)]; exact za
  have la : xs'.toArray.size = ys'.toArray.size := by simp; omega
  have g1 := Heap.lt_size ho1
  have g2 := Heap.lt_size ho2
  refine RZ.call_zipT (show s1.heap.IsTuple a xs'.toArray from ta) (show s1.heap.IsTuple b ys'.toArray from tb) fun h1 hz hTI hTO n1 n2 hsz hk => ?_
  refine Calls.spliced_nil ?_
  have S : ZipSep2 (s1.heap.objs.size + 4) (s1.heap.objs.size + 2) (s1.heap.objs.size + 3) s1.heap.objs.size (s1.heap.objs.size + 1) [s1.heap.objs.size, a] [s1.heap.objs.size + 1, b]  := sepNat _ _ _ g1 g2
  refine PySem.call_dict_pairs (knd := mixKind X.prog X.w) (kvs := ks.zip ys') (s := { s1 with heap := h1 }) (zipTup _ _ _ _ _ a b S xs'.toArray ys'.toArray la) (I1.ok.hd hc)
    ⟨hz, hTI, hTO, ⟨n1, ka.at fun o e => hk _ _ e⟩, n2, kb.at fun o e => hk _ _ e⟩ ⟨?_, fun i k v ⟨e1, e2⟩ => ?_⟩ ?_ fun h2 tk hd k2 => ?_
  · rw [List.length_zip, ← lb]; simp; omega
  · obtain ⟨c, c1, c2⟩ := hks i k v (by simpa using e1) (by simpa using e2)
    exact ⟨c, c1, c2 _ _⟩
  · simpa using xl
  · have hm : (h1.objs.size == sysModules) = false := beq_eq_false_iff_ne.mpr (Nat.ne_of_gt (by rw [hsz]; exact Nat.lt_of_lt_of_le big (Nat.le_add_right _ _)))
    have hz2 : (mergeK [] (ks.zip ys)).length ≤ sizeLine := Nat.le_trans (merge_len ks ys) (by rw [← hlen]; exact xl)
    have hk2 : ∀ c o, s1.heap.get? c = some o → h2.get? c = some o := fun c o e => by
      have lt : (c : Nat) < s1.heap.objs.size := Heap.lt_size e
      exact k2 c o (notNew _ _ lt) (hk c o e)
    exact ⟨.ref h1.objs.size, upd H1 h1.objs.size (.dK (mergeK [] (ks.zip ys))), I1.laid (t' := tk) hk2 (by rw [hsz]; omega) (show ObjOk X.prog X.w _ _ _ (.dK (mergeK [] (ks.zip ys))) from ⟨hz2, hm, merged [] (ks.zip ys'), KV.merge hrel .nil, hd⟩), rfl, q _ (I1.hok.fresh (by rw [hsz]; omega))⟩
end Td
/-! tuple(d.items()). -/
namespace Td
open PySem PySem.Spec PyProof.Rows L2
section
variable {prog : Program} {w : World} {K : Type} [DecidableEq K] {knd : KeyKind prog w K} {A : Around} {E : Value → Shared → Prop} {s : Shared} {r d : Addr} {kvs : List (K × Value)} {ep : Nat}
/-- what a heap holds behind the items are taken -/
def Taken (knd : KeyKind prog w K) (kvs : List (K × Value)) (h h' : Heap) (as : List Addr) : Prop :=
  (∀ b o, h.get? b = some o → h'.get? b = some o) ∧ as.length = kvs.length ∧ PySem.W.KdxG knd kvs h.objs.size h' as ∧
  ∃ acc c, acc.toList = as.map Value.ref ∧ h'.get? h.objs.size = some { cls := .type "list", dict := none, data := .seq acc c, slots := #[] }
theorem collect_view {Q : List Value → Shared → Prop} (hh : A.handled = none) (hv : s.heap.IsItemsView r d) (hm : s.heap.DictAt knd d kvs ep) (hn : kvs.length ≤ sizeLine)
    (hQ : ∀ (h' : Heap) (tk : Nat) (as : List Addr), Taken knd kvs s.heap h' as → Q (as.map Value.ref) { s with heap := h', toks := tk }) :
    wpAny (model prog w) A (collect (.ref r)) Q E s := by
  have lr : r < s.heap.objs.size := by obtain ⟨o, e, _⟩ := hv; exact Heap.lt_size e
  have ld : d < s.heap.objs.size := hm.lt_size
  have e0 : (s.heap.push { cls := .type "list", data := .seq ([] : List Value).toArray }).get? s.heap.objs.size = some { cls := .type "list", data := .seq #[] 0 } := Heap.get?_push_size _ rfl
  have sz : (s.heap.push { cls := .type "list", data := .seq ([] : List Value).toArray }).objs.size = s.heap.objs.size + 1 := Heap.size_push ..
  have step : ∀ (as : List Addr) (acc : Array Value) (c : Nat) (h' : Heap) (tk : Nat), Taken knd kvs s.heap h' as → acc.toList = as.map Value.ref → h'.get? s.heap.objs.size = some { cls := .type "list", dict := none, data := .seq acc c, slots := #[] } →
      Q acc.toList { s with heap := h', toks := tk } := fun as acc c h' tk t e _ => by rw [e]; exact hQ h' tk as t
  unfold collect
  refine wpAny_bind (wpAny_runValue (codeAny_builtin F.entry_proto_collect ?_))
  rw [Around.under_plainId F.plain_proto_collect _]
  show wpAny _ A.in1 (newList [] >>= fun l => again (.builtin "list.__iadd__" ⟨[l, .ref r], []⟩)) _ _ s
  refine wpAny_bind (wpAny_newObj_type (wpAny_pure ⟨plainId_quiet F.plain_list_iadd _, codeAny_builtin F.entry_list_iadd ?_⟩))
  rw [Around.under_plainId F.plain_list_iadd _]
  show wpAny _ A.in1 (Builtin.List.listExtendWith (.ref s.heap.objs.size) (.ref r) (.ref s.heap.objs.size)) _ _ _
  refine wpAny_mono (PySem.W.kdx_extend (A := A) (knd := knd) (kvs := kvs) (ep := ep) (d := d) (s := { s with heap := s.heap.push { cls := .type "list", data := .seq ([] : List Value).toArray } })
    (R := fun rr s' => rr = .ok (.ret (.ref s.heap.objs.size)) ∧ ∃ (h' : Heap) (tk : Nat) (as : List Addr) (acc : Array Value) (c : Nat), s' = { s with heap := h', toks := tk } ∧ Taken knd kvs s.heap h' as ∧ acc.toList = as.map Value.ref ∧
      h'.get? s.heap.objs.size = some { cls := .type "list", dict := none, data := .seq acc c, slots := #[] }) hh (let ⟨o, e, c⟩ := hv; ⟨o, Heap.get?_push_of_some _ e, c⟩) (hm.push _) s.heap.objs.size (Nat.ne_of_gt lr) (Nat.ne_of_lt ld) _ 0 e0
    (fun h' tk acc c as k e hl hG ha => ⟨rfl, h', tk, as, acc, c, rfl, ⟨fun b o q => k b o (Nat.ne_of_lt (Heap.lt_size q)) (Heap.get?_push_of_some _ q), hl, hG.low (by rw [sz]; exact Nat.le_succ _), acc, c, ha, e⟩, ha, e⟩) hn) (fun f s' h => ?_) (fun e s' h => absurd h.1 (by simp))
  cases f with
  | done f =>
    obtain ⟨e, h', tk, as, acc, c, rfl, t, ha, g⟩ := h
    cases e
    exact wpAny_bind (wpAny_load g (wpAny_pure (step as acc c h' tk t ha g)))
  | again c' =>
    refine ⟨h.1, codeAny_mono h.2 fun rr s2 q => ?_⟩
    obtain ⟨rfl, h', tk, as, acc, c, rfl, t, ha, g⟩ := q
    show wpAny _ A (load s.heap.objs.size >>= _) _ _ _
    exact wpAny_bind (wpAny_load g (wpAny_pure (step as acc c h' tk t ha g)))
theorem code_tuple_view {Q : Value → Shared → Prop} (hh : A.handled = none) (hv : s.heap.IsItemsView r d) (hm : s.heap.DictAt knd d kvs ep) (hn : kvs.length ≤ sizeLine)
    (hQ : ∀ (h' : Heap) (tk : Nat) (as : List Addr), Taken knd kvs s.heap h' as → Q (.ref h'.objs.size) { s with heap := h'.push { cls := .type "tuple", data := .seq (as.map Value.ref).toArray }, toks := tk }) :
    codeAny (model prog w) A (.call (.builtin "tuple.__new__") ⟨[.type "tuple", .ref r], []⟩) (wants Q E) s := by
  refine codeAny_of_tree ?_
  show wpAny _ A.in1 (do checkBuiltinCall "tuple.__new__" ⟨[.type "tuple", .ref r], []⟩; again (.builtin "tuple.__new__" ⟨[.type "tuple", .ref r], []⟩)) _ _ s
  refine wpAny_bind (wpAny_of_eq (F.newCall_tuple_1 _) (wpAny_pure ⟨plainId_quiet F.plain_tuple_new _, codeAny_builtin F.entry_tuple_new ?_⟩))
  rw [Around.under_plainId F.plain_tuple_new _]
  have k1 := sub_tuple_self
  have k2 := init_tuple_lookup
  have k3 := madeHere_tuple
  have k4 : s.TypeIs (.ref r) "dict_items" := hv.typeIs
  have k5 : A.in1.handled = none := hh
  wp_walk using wpAny_typeOf k4, collect_view (A := A.in1) (knd := knd) (kvs := kvs) (ep := ep) k5 hv hm hn
  intro h' tk as t
  show wpAny _ _ (Builtin.Tuple.tupleExact (as.map Value.ref).toArray >>= fun v => ret v) _ _ _
  unfold Builtin.Tuple.tupleExact
  exact wpAny_bind (wpAny_newObj_type (wpAny_pure (hQ h' tk as t)) (by show (as.map Value.ref).toArray.size ≤ sizeLine; rw [List.size_toArray, List.length_map, t.2.1]; exact hn))
theorem call_tuple_view {Q : Value → Shared → Prop} (hh : A.handled = none) (hv : s.heap.IsItemsView r d) (hm : s.heap.DictAt knd d kvs ep) (hn : kvs.length ≤ sizeLine)
    (hQ : ∀ (h' : Heap) (tk : Nat) (as : List Addr), Taken knd kvs s.heap h' as → Q (.ref h'.objs.size) { s with heap := h'.push { cls := .type "tuple", data := .seq (as.map Value.ref).toArray }, toks := tk }) :
    wpAny (model prog w) A (call (.type "tuple") [.ref r]) Q E s := by
  refine callType_codes (Q₁ := fun obj s₁ => s₁.TypeIs obj "tuple" ∧ Q obj s₁) F.called_tuple (F.typeCall_tuple_1 _) F.entry_object_init
    (code_tuple_view (A := A.in1) hh hv hm hn fun h' tk as t => ⟨⟨_, Heap.get?_push_size _ rfl, rfl⟩, hQ h' tk as t⟩) fun obj s1 q => ?_
  exact ⟨q.1, F.args_object_init_2 obj _, object_init_meets F.called_tuple.init.lookup F.called_tuple.made (by decide) prog w A.in1 _ s1 ⟨q.1, rfl, q.2⟩⟩
end
/-- tuple(d.items()): a new tuple of new pairs -/
def tTupItems (te : TE) : TE := fun σ H Q => te σ H fun x H1 => ∃ (d : Addr) (kvs : List (Key × V)), x = .ref d ∧ H1 d = some (.dK kvs) ∧
  ∀ (H' : Hp) (p : Addr) (ts : List Addr), Same H1 H' → H1 p = none → H' p = some (.tup (ts.map V.ref)) → Paired (fun (t : Addr) (q : Key × V) => H' t = some (.tup [kV q.1, q.2])) ts kvs → Q (.ref p) H'
section
variable {X : Cx} {e : Expr} {te : TE} {p apos cpos pos : Pos}
theorem pe_tupleItems (hc : X.calm = true) (he : PE X e te) (hg : Gl X "tuple") (hm : X.mg "tuple" = none) (hbase : attributeBase e "items" X.env (eval e X.env) = eval e X.env := by rfl) (hline : (apos.endLine == cpos.line) = true := by rfl)
    (hs : starEach [.Call (.Attribute e "items" apos) [] [] cpos] X.env = (false, eval (.Call (.Attribute e "items" apos) [] [] cpos) X.env) :: starEach [] X.env := by rfl) :
    PE X (.Call (.Name "tuple" p) [.Call (.Attribute e "items" apos) [] [] cpos] [] pos) (tTupItems te) := by
  refine ⟨fun pins s σ H Q I hq => ?_⟩
  refine wpAny_Call_Name_kw (ld_blt I hg hm PyProof.Rows.boot_tuple (PyProof.Rows.callWith_type1 ?_ hs rfl))
  rw [hs]
  show wpAny _ _ (spliced ((false, eval (.Call (.Attribute e "items" apos) [] [] cpos) X.env) :: backTo pos (starEach [] X.env))) _ _ s
  refine Calls.spliced_cons (wpAny_Call_method (T := "dict") (id := "dict.items") hbase rfl hline F.plainAttrs_dict F.slot_dict_items F.type_dict_items (thn (he.run pins s σ H _ I hq) fun u s1 ⟨x, H1, I1, rx, d, kvs, ex, hd, q⟩ => ?_))
  subst ex
  obtain rfl : u = Value.ref d := rx
  obtain ⟨hz, n0, vs, kv, hdo⟩ := I1.hok d _ hd
  obtain ⟨ep, hat⟩ := hdo.dictAt
  have lk : kvs.length = vs.length := Paired.length kv
  have I2 : Inv X pins σ H1 { s1 with heap := s1.heap.push { cls := .type "dict_items", data := .fields #[.ref d] } } := I1.kept (t' := s1.toks) fun b o q => Heap.get?_push_of_some _ q
  refine ⟨hdo.typeIs, hdo.mapOf.noDict, ?_⟩
  show wpAny _ _ (callWith cpos (.builtin "dict.items") [.ref d] [] []) _ X.xe s1
  refine method_meetsIn F.slot_dict_items F.entry_dict_items rfl (PySem.evalArgs_none ⟨rfl, hdo.typeIs, F.args_dict_items_1 _, _, meets_dict_items (mixKind X.prog X.w) d n0, ⟨vs, hdo⟩, ?_⟩)
  refine Calls.spliced_nil ?_
  refine call_tuple_view (knd := mixKind X.prog X.w) (kvs := vs) (ep := ep) (I1.ok.hd hc) ⟨_, Heap.get?_push_size _ rfl, rfl, rfl⟩ (hat.push _) (by omega) fun h' tk as ⟨k, hl, hG, acc, c, ha, hS⟩ => ?_
  obtain ⟨H', k1, k2, k3, k4, k5, k6, J⟩ := LiI.items_laid (tk := tk) I2 hz kv k hS hl hG ha
  have hx : (as.map V.ref).length ≤ sizeLine := by rw [List.length_map, hl]; omega
  have J2 := J.laid (a := h'.objs.size) (o := .tup (as.map V.ref)) (t' := tk) (h' := h'.push { cls := .type "tuple", data := .seq (as.map Value.ref).toArray }) (fun b o e => Heap.get?_push_of_some _ e) (Nat.le_refl _) ⟨hx, as.map Value.ref, LiI.vals_refs as, IsTup.new _ _⟩
  have hp : H' h'.objs.size = none := J.hok.fresh (Nat.le_refl _)
  refine ⟨.ref h'.objs.size, _, J2, rfl, q _ _ as (fun b o e => Same.new hp _ _ _ (k1 b o e)) ?_ upd_same ?_⟩
  · cases e1 : H1 h'.objs.size with
    | none => rfl
    | some o => rw [k1 _ _ e1] at hp; cases hp
  · exact Paired.mono (fun t q e => Same.new hp _ _ _ e) k6
end
end Td
/-! A run hangs on the words it noted and peeked at. -/
namespace Td
open PySem PySem.Spec PyProof.Rows L2
/-- noted or peeked -/
def RS.seen (st : RS) (c : Str) : Prop := (getE st.noted c).isSome = true ∨ (getE st.peeked c).isSome = true
theorem sdE_get (L : Env) (k v j : Str) : getE (sdE L k v) j = if j = k then (match getE L k with | some u => some u | none => some v) else getE L j := by
  unfold sdE
  cases h : getE L k with
  | some u =>
    simp only [Option.isSome_some, if_true]
    by_cases e : j = k
    · rw [if_pos e, e, h]
    · rw [if_neg e]
  | none =>
    simp only [Option.isSome_none, Bool.false_eq_true, if_false]
    rw [getE_put]
theorem sdE_keep {L : Env} {k v j : Str} (h : (getE L j).isSome = true) : (getE (sdE L k v) j).isSome = true := by
  rw [sdE_get]
  split
  · split <;> rfl
  · exact h
theorem sdE_new (L : Env) (k v : Str) : (getE (sdE L k v) k).isSome = true := by
  rw [sdE_get, if_pos rfl]
  split <;> rfl
mutual
theorem seen_R (kn : Str → Str) (d c : Str) : ∀ (r : Row) (st : RS), st.seen c → (runR kn d r st).1.seen c
  | .rd pk a s, st, h => by
    simp only [runR]
    cases pk
    · rcases h with h | h
      · exact .inl (sdE_keep h)
      · exact .inr h
    · rcases h with h | h
      · exact .inl h
      · exact .inr (sdE_keep h)
  | .put s u, st, h => by simp only [runR]; exact h
  | .give s, st, h => by simp only [runR]; exact h
  | .say s, st, h => by simp only [runR]; exact h
  | .wr a s, st, h => by simp only [runR]; exact h
  | .ite s u y n, st, h => by
    simp only [runR]
    split
    · exact seen_Rs kn d c y st h
    · exact seen_Rs kn d c n st h
theorem seen_Rs (kn : Str → Str) (d c : Str) : ∀ (rs : List Row) (st : RS), st.seen c → (runRs kn d rs st).1.seen c
  | [], st, h => by simp only [runRs]; exact h
  | r :: rs, st, h => by
    have h1 := seen_R kn d c r st h
    by_cases hb : (runR kn d r st).2 = true
    · rw [runRs_yes _ hb]; exact h1
    · rw [runRs_no _ hb]; exact seen_Rs kn d c rs _ h1
end
mutual
/-- words that agree where the run looked give the same run -/
theorem same_R (kn k2 : Str → Str) (d : Str) : ∀ (r : Row) (st : RS), (∀ c, (runR kn d r st).1.seen c → k2 c = kn c) → runR k2 d r st = runR kn d r st
  | .rd pk a s, st, h => by
    have e : k2 a = kn a := by
      refine h a ?_
      simp only [runR]
      cases pk
      · exact .inl (sdE_new ..)
      · exact .inr (sdE_new ..)
    simp only [runR, e]
  | .put s u, st, h => by simp only [runR]
  | .give s, st, h => by simp only [runR]
  | .say s, st, h => by simp only [runR]
  | .wr a s, st, h => by simp only [runR]
  | .ite s u y n, st, h => by
    simp only [runR] at h ⊢
    split
    · rename_i e
      rw [if_pos e] at h
      exact same_Rs kn k2 d y st h
    · rename_i e
      rw [if_neg e] at h
      exact same_Rs kn k2 d n st h
theorem same_Rs (kn k2 : Str → Str) (d : Str) : ∀ (rs : List Row) (st : RS), (∀ c, (runRs kn d rs st).1.seen c → k2 c = kn c) → runRs k2 d rs st = runRs kn d rs st
  | [], st, h => by simp only [runRs]
  | r :: rs, st, h => by
    have h1 : runR k2 d r st = runR kn d r st := by
      refine same_R kn k2 d r st fun c hc => h c ?_
      by_cases hb : (runR kn d r st).2 = true
      · rw [runRs_yes _ hb]; exact hc
      · rw [runRs_no _ hb]; exact seen_Rs kn d c rs _ hc
    by_cases hb : (runR kn d r st).2 = true
    · rw [runRs_yes _ hb, runRs_yes _ (by rw [h1]; exact hb), h1]
    · have hb2 : ¬ (runR k2 d r st).2 = true := by rw [h1]; exact hb
      rw [runRs_no _ hb, runRs_no _ hb2, h1]
      exact same_Rs kn k2 d rs _ fun c hc => h c (by rw [runRs_no _ hb]; exact hc)
end
/-- what is noted is what was told -/
def RS.tells (kn : Str → Str) (st : RS) : Prop := (∀ c u, (c, u) ∈ st.noted → u = kn c) ∧ ∀ c u, (c, u) ∈ st.peeked → u = kn c
theorem mem_put {L : Env} {k v c u : Str} (h : (c, u) ∈ putE L k v) : (c, u) ∈ L ∨ (c = k ∧ u = v) := by
  unfold putE at h
  split at h
  · obtain ⟨p, hp, e⟩ := List.mem_map.mp h
    split at e
    · rename_i e2
      cases e
      exact .inr ⟨e2, rfl⟩
    · subst e; exact .inl hp
  · rcases List.mem_append.mp h with h | h
    · exact .inl h
    · rw [List.mem_singleton] at h
      cases h
      exact .inr ⟨rfl, rfl⟩
theorem mem_sd {L : Env} {k v c u : Str} (h : (c, u) ∈ sdE L k v) : (c, u) ∈ L ∨ (c = k ∧ u = v) := by
  unfold sdE at h
  split at h
  · exact .inl h
  · exact mem_put h
mutual
theorem true_R (kn : Str → Str) (d : Str) : ∀ (r : Row) (st : RS), st.tells kn → (runR kn d r st).1.tells kn
  | .rd pk a s, st, h => by
    simp only [runR]
    refine ⟨fun c u hc => ?_, fun c u hc => ?_⟩
    · cases pk
      · rcases mem_sd hc with q | ⟨rfl, rfl⟩
        · exact h.1 c u q
        · rfl
      · exact h.1 c u hc
    · cases pk
      · exact h.2 c u hc
      · rcases mem_sd hc with q | ⟨rfl, rfl⟩
        · exact h.2 c u q
        · rfl
  | .put s u, st, h => by simp only [runR]; exact h
  | .give s, st, h => by simp only [runR]; exact h
  | .say s, st, h => by simp only [runR]; exact h
  | .wr a s, st, h => by simp only [runR]; exact h
  | .ite s u y n, st, h => by
    simp only [runR]
    split
    · exact true_Rs kn d y st h
    · exact true_Rs kn d n st h
theorem true_Rs (kn : Str → Str) (d : Str) : ∀ (rs : List Row) (st : RS), st.tells kn → (runRs kn d rs st).1.tells kn
  | [], st, h => by simp only [runRs]; exact h
  | r :: rs, st, h => by
    have h1 := true_R kn d r st h
    by_cases hb : (runR kn d r st).2 = true
    · rw [runRs_yes _ hb]; exact h1
    · rw [runRs_no _ hb]; exact true_Rs kn d rs _ h1
end
/-- the told words agree with what a run noted -/
def agree (kn : Str → Str) (st : RS) : Bool := (st.noted ++ st.peeked).all fun p => decide (kn p.1 = p.2)
theorem agree_iff (kn : Str → Str) (st : RS) : agree kn st = true ↔ st.tells kn := by
  unfold agree RS.tells
  rw [List.all_append, Bool.and_eq_true, List.all_eq_true, List.all_eq_true]
  constructor
  · rintro ⟨h1, h2⟩
    exact ⟨fun c u h => (of_decide_eq_true (h1 _ h)).symm, fun c u h => (of_decide_eq_true (h2 _ h)).symm⟩
  · rintro ⟨h1, h2⟩
    exact ⟨fun p h => decide_eq_true (h1 p.1 p.2 h).symm, fun p h => decide_eq_true (h2 p.1 p.2 h).symm⟩
theorem get_mem {L : Env} {c : Str} (h : (getE L c).isSome = true) : ∃ u, (c, u) ∈ L := by
  obtain ⟨u, hu⟩ := Option.isSome_iff_exists.mp h
  unfold getE at hu
  obtain ⟨p, hp, e⟩ := Option.map_eq_some_iff.mp hu
  have h1 := List.find?_some hp
  have h2 := List.mem_of_find?_eq_some hp
  have h3 : p.1 = c := of_decide_eq_true h1
  exact ⟨p.2, by rw [← h3]; exact h2⟩
/-- what two answers show -/
def RS.shows (st s2 : RS) (dv : Bool) : Prop := st.noted = s2.noted ∧ st.peeked = s2.peeked ∧ st.said = s2.said ∧ st.written = s2.written ∧ (dv = true → st.given = s2.given)
theorem hangs (k1 k2 : Str → Str) (d : Str) (rs : List Row) (st : RS) (dv : Bool) (t : ∀ kn, st.tells kn) :
    agree k1 (runRs k1 d rs st).1 = true ∧ (agree k2 (runRs k1 d rs st).1 = true ↔ (runRs k1 d rs st).1.shows (runRs k2 d rs st).1 dv) := by
  have h1 := true_Rs k1 d rs st (t k1)
  have h2 := true_Rs k2 d rs st (t k2)
  refine ⟨(agree_iff _ _).mpr h1, fun h => ?_, fun h => ?_⟩
  · have a := (agree_iff _ _).mp h
    have e := same_Rs k1 k2 d rs st fun c hc => by
      rcases hc with hc | hc
      · obtain ⟨u, hu⟩ := get_mem hc
        rw [← a.1 c u hu, ← h1.1 c u hu]
      · obtain ⟨u, hu⟩ := get_mem hc
        rw [← a.2 c u hu, ← h1.2 c u hu]
    rw [e]
    exact ⟨rfl, rfl, rfl, rfl, fun _ => rfl⟩
  · obtain ⟨e1, e2, _⟩ := h
    rw [agree_iff]
    exact ⟨fun c u hc => h2.1 c u (by rw [← e1]; exact hc), fun c u hc => h2.2 c u (by rw [← e2]; exact hc)⟩
end Td
/-! == of two dicts that hold data. -/
namespace Td
open PySem PySem.Spec PyProof.Rows L2
/-- one dict's values against the other's -/
def hitsV (K : PySem.W.Frag) (H : Hp) (ls : List (Key × V)) : List (Key × V) → Bool → Prop
  | [], r => r = true
  | p :: ps, r => ∃ (u : V) (d e : PyData) (r' : Bool), valV ls p.1 = some u ∧ Dp K H p.2 d ∧ Dp K H u e ∧ d.canLay0 = true ∧ e.canLay0 = true ∧ d.depth ≤ 60 ∧ hitsV K H ls ps r' ∧ r = (PyData.eqv d e && r')
def rEqK (K : PySem.W.Frag) : R2 := fun x y H Q => ∃ (a b : Addr) (ks ls : List (Key × V)) (r : Bool), x = .ref a ∧ y = .ref b ∧ H a = some (.dK ks) ∧ H b = some (.dK ls) ∧ ks.length = ls.length ∧ hitsV K H ls ks r ∧ Q (.bl r) H
section
variable {X : Cx} {pins : List (Addr × Obj)} {σ : L2.St} {H : Hp} {s : Shared}
theorem hits_data (I : Inv X pins σ H s) {A : Around} (hu : A.units + 60 < cLine) {ls : List (Key × V)} {vb : List (Key × Value)} (rb : KV ls vb) : ∀ {ks : List (Key × V)} {va : List (Key × Value)} {r : Bool}, KV ks va → hitsV X.K H ls ks r → PySem.W.KeqHitsP X.prog X.w A s vb va r
  | [], _, r, .nil, h => by
    have h : r = true := h
    subst h
    exact .nil
  | p :: ps, _, r, .cons (b := q) h t, hp => by
    obtain ⟨u, d, e, r', e1, d1, d2, c1, c2, l, hr, rfl⟩ := hp
    obtain ⟨h1, h2⟩ := h
    have rr : RelO (some u) (valueAt vb p.1) := by rw [← e1]; exact rb.val p.1
    obtain ⟨y, hy, ry⟩ := rr.some_of
    obtain ⟨key, v⟩ := q
    have h1' : p.1 = key := h1
    rw [h1'] at hy
    obtain ⟨as, g1⟩ := Dp.reads I d p.2 v d1 h2
    obtain ⟨bs, g2⟩ := Dp.reads I e u y d2 ry
    exact .hit hy (SeqAt.EqAt.eqP (SeqAt.eqAt_reads d e A s v y as bs g1 g2 c1 c2 (by have := Nat.min_le_left d.depth e.depth; omega))) (hits_data I hu rb t hr)
theorem op_eqK (hu : X.A.units + 64 < cLine) : OpR X (compareOp .Eq) (rEqK X.K) := by
  intro pins s σ H x y v u Q I rx ry h
  obtain ⟨a, b, ks, ls, r, rfl, rfl, ea, eb, hl, hh, q⟩ := h
  obtain rfl : v = .ref a := rx
  obtain rfl : u = .ref b := ry
  obtain ⟨_, ya, va, ra, da⟩ := dk_of I.hok ea
  obtain ⟨_, yb, vb, rb, db⟩ := dk_of I.hok eb
  refine PySem.W.rcP_dicts (knd := mixKind X.prog X.w) (r := r) ya yb da db (by omega) (fun _ => hits_data I (A := X.A.in1) (by show X.A.units + 1 + 60 < cLine; omega) rb ra hh) _ _ ?_
  have e : (va.length == vb.length && r) = r := by
    have h1 : va.length = vb.length := by rw [← Paired.length ra, ← Paired.length rb, hl]
    rw [h1]; simp
  rw [e]
  exact ⟨.bl r, H, I, rfl, q⟩
end
/-! ### the data of an answer -/
theorem wr_eqv (p q : Str × Str) : PyData.eqv (wrD p) (wrD q) = decide (p = q) := by
  obtain ⟨a, b⟩ := p
  obtain ⟨c, d⟩ := q
  unfold wrD
  simp only [PyData.eqv, PyData.eqvAll, Prod.mk.injEq, Bool.and_true, Bool.decide_and]
  congr 1
theorem env_eqvAll : ∀ L M : Env, PyData.eqvAll (L.map wrD) (M.map wrD) = decide (L = M)
  | [], [] => rfl
  | [], _ :: _ => rfl
  | _ :: _, [] => rfl
  | p :: L, q :: M => by
    rw [List.map_cons, List.map_cons]
    simp only [PyData.eqvAll, wr_eqv, env_eqvAll L M, List.cons.injEq, Bool.decide_and]
theorem strs_eqvAll : ∀ L M : List Str, PyData.eqvAll (L.map PyData.str) (M.map PyData.str) = decide (L = M)
  | [], [] => rfl
  | [], _ :: _ => rfl
  | _ :: _, [] => rfl
  | p :: L, q :: M => by
    rw [List.map_cons, List.map_cons]
    simp only [PyData.eqvAll, PyData.eqv, strs_eqvAll L M, List.cons.injEq, Bool.decide_and]
    congr 1
theorem nm_ok {z : Str} (h : isNm z = true) : PyData.strOk z = true := by
  unfold isNm at h
  simp only [Bool.and_eq_true] at h
  have h2 := h.2
  unfold PyData.strOk
  rw [← Array.all_toList]
  rw [List.all_eq_true] at h2 ⊢
  intro c hc
  have := h2 c hc
  unfold lowc at this
  simp only [Bool.and_eq_true, decide_eq_true_eq] at this
  exact decide_eq_true (by omega)
theorem env_lay : ∀ L : Env, (∀ p ∈ L, isNm p.1 = true ∧ isNm p.2 = true) → PyData.canLayAll0 (L.map wrD) = true
  | [], _ => rfl
  | p :: L, h => by
    have h1 := h p List.mem_cons_self
    have h2 := env_lay L fun q hq => h q (List.mem_cons_of_mem _ hq)
    rw [List.map_cons]
    unfold wrD at h2 ⊢
    simp only [PyData.canLayAll0, PyData.canLay0, nm_ok h1.1, nm_ok h1.2, h2]
    rfl
theorem strs_lay : ∀ L : List Str, (∀ z ∈ L, isNm z = true) → PyData.canLayAll0 (L.map PyData.str) = true
  | [], _ => rfl
  | p :: L, h => by
    have h2 := strs_lay L fun q hq => h q (List.mem_cons_of_mem _ hq)
    rw [List.map_cons]
    simp only [PyData.canLayAll0, PyData.canLay0, nm_ok (h p List.mem_cons_self), h2]
    rfl
theorem env_deep : ∀ L : Env, PyData.depthAll (L.map wrD) ≤ 2
  | [] => by simp [PyData.depthAll]
  | p :: L => by
    rw [List.map_cons]
    unfold wrD
    have := env_deep L
    unfold wrD at this
    simp only [PyData.depthAll, PyData.depth]
    omega
theorem strs_deep : ∀ L : List Str, PyData.depthAll (L.map PyData.str) ≤ 2
  | [] => by simp [PyData.depthAll]
  | p :: L => by
    rw [List.map_cons]
    have := strs_deep L
    simp only [PyData.depthAll, PyData.depth]
    omega
/-! ### all that a run holds are names -/
structure RS.Nm (st : RS) : Prop where
  sl : ∀ p ∈ st.slots, isNm p.2 = true
  no : ∀ p ∈ st.noted, isNm p.1 = true ∧ isNm p.2 = true
  pe : ∀ p ∈ st.peeked, isNm p.1 = true ∧ isNm p.2 = true
  sa : ∀ z ∈ st.said, isNm z = true
  wr : ∀ p ∈ st.written, isNm p.1 = true ∧ isNm p.2 = true
  gi : isNm st.given = true
structure ScNm (S : Sc) (kn : Str → Str) : Prop where
  rd : ∀ c ∈ S.readable, isNm c = true ∧ isNm (kn c) = true
  so : ∀ c ∈ S.sources, isNm c = true
  wo : ∀ c ∈ S.words, isNm c = true
theorem put_mem {L : Env} {k v : Str} {p : Str × Str} (h : p ∈ putE L k v) : p ∈ L ∨ (p.1 = k ∧ p.2 = v) := by
  unfold putE at h
  split at h
  · obtain ⟨q, hq, e⟩ := List.mem_map.mp h
    split at e
    · rename_i e2
      subst e
      exact .inr ⟨e2, rfl⟩
    · subst e; exact .inl hq
  · rcases List.mem_append.mp h with h | h
    · exact .inl h
    · rw [List.mem_singleton] at h
      subst h
      exact .inr ⟨rfl, rfl⟩
theorem sd_mem {L : Env} {k v : Str} {p : Str × Str} (h : p ∈ sdE L k v) : p ∈ L ∨ (p.1 = k ∧ p.2 = v) := by
  unfold sdE at h
  split at h
  · exact .inl h
  · exact put_mem h
theorem get_has {L : Env} {k u : Str} (h : getE L k = some u) : ∃ p ∈ L, p.2 = u := by
  unfold getE at h
  obtain ⟨p, hp, e⟩ := Option.map_eq_some_iff.mp h
  exact ⟨p, List.mem_of_find?_eq_some hp, e⟩
theorem word_nm {st : RS} {d s : Str} (h : st.Nm) (hd : isNm d = true) : isNm (st.word d s) = true := by
  unfold RS.word
  cases e : getE st.slots s with
  | none => exact hd
  | some u =>
    obtain ⟨p, hp, rfl⟩ := get_has e
    exact h.sl p hp
mutual
theorem nm_R {S : Sc} {kn : Str → Str} {d : Str} (hS : ScNm S kn) (hd : isNm d = true) : ∀ (r : Row) (dep : Nat) (st : RS), okR S dep r → st.Nm → (runR kn d r st).1.Nm
  | .rd pk c s, dep, st, ok, h => by
    unfold okR at ok
    obtain ⟨c1, c2⟩ := hS.rd c ok.2.1
    have hs : ∀ p ∈ putE st.slots s (kn c), isNm p.2 = true := fun p hp => by
      rcases put_mem hp with q | ⟨_, e⟩
      · exact h.sl p q
      · rw [e]; exact c2
    have hg : ∀ L : Env, (∀ p ∈ L, isNm p.1 = true ∧ isNm p.2 = true) → ∀ p ∈ sdE L c (kn c), isNm p.1 = true ∧ isNm p.2 = true := fun L hL p hp => by
      rcases sd_mem hp with q | ⟨e1, e2⟩
      · exact hL p q
      · rw [e1, e2]; exact ⟨c1, c2⟩
    simp only [runR]
    cases pk
    · exact ⟨hs, hg _ h.no, h.pe, h.sa, h.wr, h.gi⟩
    · exact ⟨hs, h.no, hg _ h.pe, h.sa, h.wr, h.gi⟩
  | .put s u, dep, st, ok, h => by
    unfold okR at ok
    simp only [runR]
    refine ⟨fun p hp => ?_, h.no, h.pe, h.sa, h.wr, h.gi⟩
    rcases put_mem hp with q | ⟨_, e⟩
    · exact h.sl p q
    · rw [e]; exact hS.wo u ok.2
  | .give s, dep, st, ok, h => by
    simp only [runR]
    exact ⟨h.sl, h.no, h.pe, h.sa, h.wr, word_nm h hd⟩
  | .say s, dep, st, ok, h => by
    simp only [runR]
    refine ⟨h.sl, h.no, h.pe, fun z hz => ?_, h.wr, h.gi⟩
    rcases List.mem_append.mp hz with q | q
    · exact h.sa z q
    · rw [List.mem_singleton.mp q]; exact word_nm h hd
  | .wr c s, dep, st, ok, h => by
    unfold okR at ok
    simp only [runR]
    refine ⟨h.sl, h.no, h.pe, h.sa, fun p hp => ?_, h.gi⟩
    rcases List.mem_append.mp hp with q | q
    · exact h.wr p q
    · rw [List.mem_singleton.mp q]; exact ⟨hS.so c ok.2.1, word_nm h hd⟩
  | .ite s u y n, dep, st, ok, h => by
    unfold okR at ok
    simp only [runR]
    split
    · exact nm_Rs hS hd y (dep + 1) st ok.2.2.2.1 h
    · exact nm_Rs hS hd n (dep + 1) st ok.2.2.2.2 h
theorem nm_Rs {S : Sc} {kn : Str → Str} {d : Str} (hS : ScNm S kn) (hd : isNm d = true) : ∀ (rs : List Row) (dep : Nat) (st : RS), okRs S dep rs → st.Nm → (runRs kn d rs st).1.Nm
  | [], dep, st, ok, h => by simp only [runRs]; exact h
  | r :: rs, dep, st, ok, h => by
    unfold okRs at ok
    have h1 := nm_R hS hd r dep st ok.1 h
    by_cases hb : (runR kn d r st).2 = true
    · rw [runRs_yes _ hb]; exact h1
    · rw [runRs_no _ hb]; exact nm_Rs hS hd rs dep _ ok.2 h1
end
end Td
/-! A method whose first statement is super().__init__() with no more arguments. -/
namespace Td
open PySem PySem.Spec PyProof.Rows L2
/-- what is written of such a method: it stands at f in the class at C, its class cell at cc; g is the other class's __init__ -/
structure Sup (P : Program) (K : PySem.W.Frag) (qual : Str) (st : Stmt) (f C g : Addr) (fd : FuncData) : Prop where
  ex : ∃ (oc : Value) (od : Option Addr) (sl : Array (Option Value)) (kV doc pm : Value) (an : Option Addr) (ct : Value) (cc cda : Addr) (ccl : Value) (cdd : Option Addr) (vs : Array Value) (ccs : Array (Option Value)) (file : Str) (tf : Tok) (cl : Value) (cld : Option Addr) (csl : Array (Option Value)),
    fd = PySem.W.fnX "__init__" qual (defArgs st) (defBody st) (defScope st) [("__class__", cc)] .none kV doc pm an (.ref cda) ct ∧ K.lookup f = some ⟨oc, od, .func fd, sl⟩ ∧ PySem.W.codeIn K (.ref cda) qual = true ∧
    K.lookup cda = some ⟨ccl, cdd, .fields vs, ccs⟩ ∧ vs[2]? = some (.str file tf) ∧ ((P.main.file : Str) == file) = true ∧ K.lookup cc = some ⟨cl, cld, .cell (some (.ref C)), csl⟩
  cls : ∃ cd, PySem.W.clsIn K C = some cd
  mro : PySem.W.mroIn K C (.ref C) = some true
  up : PySem.W.ks_superIn K C C "__init__" = some (some (.ref g))
  ty : PySem.W.typeIn K (.ref g) = some (.type "function")
  fn : PySem.W.fnIn K g = true
  opq : PySem.W.nsIn K cStatics "thirdparty.any" = some none
  glob : PySem.W.nsIn K mainGlobals "super" = some none
  kp : PySem.W.keepIn K (.ref f) = true
def supNF (qual : Str) (st : Stmt) (cc cda : Addr) : NdefX.NF := ⟨"__init__", qual, defArgs st, defBody st, defScope st, [("__class__", cc)], cda⟩
theorem sup_tree {o : Expr} {m : Str} {ap cp : Pos} {env : PySem.Env} (hl : (ap.endLine == cp.line) = true) : eval (.Call (.Attribute o m ap) [] [] cp) env = (do
      let ov ← attributeBase o m env (eval o env)
      standAt ap.atName
      let (f, first) ← holding [ov] (getMethod ov m (plainOf o env))
      callWith cp f first (backTo cp (starEach [] env)) []) := by
  rw [arm_eval_Call]
  refine bind_congr fun ov => bind_congr fun _ => ?_
  exact mcall_line rfl hl
section
variable {P : Program} {w : World} {K : PySem.W.Frag} {mg : Str → Option Value} {base : Heap}
theorem Sup.binds {qual : Str} {st : Stmt} {f C g : Addr} {fd : FuncData} {ps : List Str} (F : Sup P K qual st f C g fd)
    (h : ∀ (kV doc pm : Value) (an : Option Addr) (cdv ct : Value) (cc : Addr) (us : List Value), us.length = ps.length → bindArgs (PySem.W.fnX "__init__" qual (defArgs st) (defBody st) (defScope st) [("__class__", cc)] .none kV doc pm an cdv ct) ⟨us, []⟩ = pure (ps.zip us)) : Binds K fd ps [] := by
  obtain ⟨oc, od, sl, kV, doc, pm, an, ct, cc, cda, ccl, cdd, vs, ccs, file, tf, cl, cld, csl, rfl, _⟩ := F.ex
  exact .all (h kV doc pm an (.ref cda) ct cc)
theorem fn_super {qual : Str} {st : Stmt} {f C g : Addr} {fd gd : FuncData} {N ps : List Str} {k : Nat} {sp spG : Sp} {p0 p1 ap cp ep : Pos} {rest : List Stmt} {ar : Arg} {us0 : List Str}
    (F : Sup P K qual st f C g fd) (hst : defBody st = .Expr (.Call (.Attribute (.Call (.Name "super" p0) [] [] p1) "__init__" ap) [] [] cp) ep :: rest)
    (S : NdefX.NScope N ps ["__class__"] (defScope st)) (hps : ps = ar.arg :: us0) (har : ((defArgs st).posonlyargs ++ (defArgs st).args).head? = some ar)
    (hline : (ap.endLine == cp.line) = true) (hks : (defScope st).names.lookup ("super" : Str) = some .globalImplicit) (htop : (P.main.scope.names.lookup ("super" : Str)).isSome = false)
    (G : FnOk P w K mg base CX0 k g gd [ar.arg] spG) (bG : Binds K gd [ar.arg] [])
    (len : ∀ vs H Q E, sp vs H Q E → vs.length = ps.length)
    (hbody : ∀ (A : Around) (outer : List PySem.Env) (s : Shared) (H : Hp) (vs : List V) (Q : VK) (E : XK) (cc cda : Addr), Room k (A.deeper (NdefX.envF (supNF qual st cc cda) f s.heap.objs.size)) → sp vs H Q E →
      ∃ (x dx : Addr) (fs : List (Str × V)) (vs' : List V), vs = .ref x :: vs' ∧ H x = some (.ins C dx fs) ∧ spG [.ref x] H (fun v H' => v = .non ∧
        ∃ t, PSs (NdefX.ncx CX0 P w K mg base N (supNF qual st cc cda) f A outer s H E) rest t ∧ t { nx := fun _ H' => Q .non H', rt := Q } (NdefX.startF N vs [none]) H') E0) :
    FnOk P w K mg base CX0 (k + 1) f fd ps sp := by
  refine ⟨len, fun A outer s H args us vs Q E hr e0 hb r hsp => ?_⟩
  obtain ⟨oc, od, sl, kV, doc, pm, an, ct, cc, cda, ccl, cdd, cvs, ccs, file, tf, cl, cld, csl, rfl, lk, hcd, lcd, hcv, hfile, lcc⟩ := F.ex
  have hl := len _ _ _ _ hsp
  have KX : K.In s.heap := e0.mod.kin.keeps fun b o e => (e0.bs b o e).1
  have lim : s.heap.NoLimit := e0.mod.nolimit.keeps fun b o e => (e0.bs b o e).1
  refine ks_codeAny_call_defAt hr.depth (KX _ _ lk) rfl lim (PySem.W.codeRec_of KX hcd) rfl hb S.nocell (fun ⟨n, _⟩ hy => S.par n (List.of_mem_zip hy).1) (fun h₁ hns kp => ?_) S.co S.gen S.kind
  show PySem.wpAt _ (A.deeper (NdefX.envF (supNF qual st cc cda) f s.heap.objs.size)) (.func (defBody st) (NdefX.envF (supNF qual st cc cda) f s.heap.objs.size)) (execs (defBody st) (NdefX.envF (supNF qual st cc cda) f s.heap.objs.size)) _ _ _
  have cells : NdefX.CellsAt (supNF qual st cc cda).cl ["__class__"] [none] s.heap H := by
    have one : ∀ y c, List.lookup y [(("__class__" : Str), cc)] = some c → y = "__class__" ∧ c = cc := fun y c e => by
      by_cases z : y = ("__class__" : Str)
      · subst z
        simp [List.lookup] at e
        exact ⟨rfl, e.symm⟩
      · have q : (y == ("__class__" : Str)) = false := by simpa using z
        simp [List.lookup, q] at e
    refine ⟨rfl, fun y c e => ?_, fun x y c e1 e2 => (one x c e1).1.trans (one y c e2).1.symm, fun i y e => ?_⟩
    · obtain ⟨_, rfl⟩ := one y c e
      exact ⟨(e0.bs _ _ (e0.mod.kin _ _ lcc)).2, some (.ref C), _, KX _ _ lcc, rfl⟩
    · cases i with
      | zero =>
        have ey : y = "__class__" := (Option.some.inj e).symm
        subst ey
        exact ⟨cc, by simp [supNF, List.lookup], fun v z => by simp at z⟩
      | succ n => simp at e
  have I : Inv (NdefX.ncx CX0 P w K mg base N (supNF qual st cc cda) f A outer s H E) [] (NdefX.startF N vs [none]) H { s with heap := h₁, toks := s.toks + (ps.zip us).length } := NdefX.inv_startN S hr.hd e0 hl r cells hns kp
  obtain ⟨x, dx, fs, vs', rfl, hx, hG⟩ := hbody A outer s H vs Q E cc cda (hr.deeper _) hsp
  cases r with
  | cons ru rr =>
    rename_i u0 us1
    obtain rfl : u0 = Value.ref x := ru
    have K1 : K.In h₁ := I.kIn
    obtain ⟨cd, hcls⟩ := F.cls
    obtain ⟨oD, hD1, hD2⟩ : ∃ oD, h₁.get? C = some oD ∧ oD.data = .cls cd := by
      unfold PySem.W.clsIn at hcls
      split at hcls
      · rename_i c d cd' sl' ho
        cases hcls
        exact ⟨_, K1 _ _ ho, rfl⟩
      · cases hcls
    obtain ⟨mA, O, _⟩ := ins_get I.hok hx
    obtain ⟨od1, J, _⟩ := O.look
    have nx : (NdefX.envF (supNF qual st cc cda) f s.heap.objs.size).kindOf "super" = some .globalImplicit := hks
    have nc : (NdefX.envF (supNF qual st cc cda) f s.heap.objs.size).kindOf "__class__" = some .free := S.frk _ (by simp)
    have ns : (NdefX.envF (supNF qual st cc cda) f s.heap.objs.size).kindOf ar.arg = some .local := S.par _ (by rw [hps]; simp)
    obtain ⟨mb, hb1, hb2⟩ := e0.mod.blt
    rw [hst]
    refine ks_wpAt_execs_cons (ks_wpAt_Expr_any ?_ I.quiet)
    refine ks_wpAt_MethodCall ?_ (sup_tree hline)
    refine ks_wpAt_super_base nx nc rfl rfl (K1 _ _ lk) rfl har rfl (K1 _ _ lcd) rfl hcv hfile htop ?_
    refine PySem.W.ks_loadName_global S.kind nx (Calls.loadGlobal_builtin (by exact e0.mod.glob.keeps I.bk) (PySem.W.mg_none_of e0.mod.kin e0.mod.glob F.glob) (by exact hb1.keeps I.bk) ((hb2 "super" (by decide)).trans (by decide +kernel : bootBuiltins "super" = some (.type "super"))) ⟨rfl, ?_⟩)
    refine wpAny_loadName_free S.kind nc rfl ⟨_, K1 _ _ lcc, rfl⟩ ?_
    refine wpAny_loadName_local S.kind ns hns (v := .ref x) ?_ ?_
    · rw [hps, List.zip_cons_cons, List.reverse_cons, List.lookup_append]
      have hn : (us0.zip us1).reverse.lookup ar.arg = none := by
        have nd := S.nd.sublist (List.take_sublist (ps.length + 1) N)
        have pre := S.pre
        rw [show (["__class__"] : List Str).length = 1 from rfl] at pre
        rw [pre, hps, List.cons_append] at nd
        exact NdefX.look_none fun v hv => (List.nodup_cons.mp nd).1 (List.mem_append_left _ (List.of_mem_zip (List.mem_reverse.mp hv)).1)
      rw [hn]
      simp [List.lookup]
    refine ks_wpAny_isType_cls hD1 hD2 ⟨rfl, ?_⟩
    refine ks_wpAny_call_super hD1 hD2 J.at_ J.cls (fun c e => by cases e) (PySem.W.looks_mroIn K1 F.mro) (fun h' eso k' => ?_)
    have K2 : K.In h' := K1.keeps k'
    have hgf : ∃ of, h'.get? g = some of ∧ of.cls = .type "function" := by
      have ht' : (K.lookup g).map (·.cls) = some (.type "function") := F.ty
      cases z : K.lookup g with
      | none => rw [z] at ht'; cases ht'
      | some of => rw [z] at ht'; exact ⟨of, K2 _ _ z, Option.some.inj ht'⟩
    obtain ⟨of, hof, hofc⟩ := hgf
    have hup := F.up
    unfold PySem.W.ks_superIn at hup
    rw [hcls] at hup
    refine ks_wpAny_getMethod_super eso (PySem.W.looks_opaque K2 F.opq) (l₀ := cd.mro) ?_ rfl K2 hup hof hofc (PySem.W.ks_ne K1 J hcls) rfl ?_
    · exact fun A Q E s k q => wpAny_bind ((PySem.W.looks_clsIn K2 hcls) A _ E s k (wpAny_pure q))
    have k3 : ∀ b o, h₁.get? b = some o → (h'.push { cls := .type "method", data := .fields #[.ref g, .ref x] }).get? b = some o := fun b o e => Heap.get?_push_of_some _ (k' b o e)
    have J2 := I.kept (t' := s.toks + (ps.zip (Value.ref x :: us1)).length + 1) k3
    refine PySem.W.callWith_M0 (g := g) (self := .ref x) (K := K) ⟨Heap.get?_push_at rfl rfl, J2.kIn⟩ F.fn (wpAny_call (ks_codeAny_call_bound (Heap.get?_push_at rfl rfl) ?_))
    refine codeAny_mono (G.run _ _ _ H ⟨[.ref x], []⟩ [.ref x] [.ref x] _ E0 (hr.deeper _) J2.env0 (bG _ [.ref x] J2.kIn rfl) (.cons rfl .nil) hG) fun r s' hq => ?_
    cases r with
    | error e => exact hq.elim
    | ok fl =>
      cases fl with
      | next => exact False.elim hq
      | brk => exact False.elim hq
      | cont => exact False.elim hq
      | ret u =>
        obtain ⟨v, H', J3, rv, ev, t, ht, hq3⟩ := J2.after hq
        refine PySem.wpAt_of_wpAny ?_
        refine wpAny_mono (ht.run [] s' _ H' _ J3 hq3) (fun fl s2 hs => ?_) fun e s2 hs => hs
        have fin : ∀ {σ' : L2.St} {H' : Hp} {v : V} {u : Value}, Inv (NdefX.ncx CX0 P w K mg base N (supNF qual st cc cda) f A outer s H E) [] σ' H' s2 → RelV v u → Q v H' → CE outer P w H s Q u s2 :=
          fun {σ' H' v u} J rv q => ⟨v, H', J.os, J.bare, J.base, J.hok, rv, q⟩
        cases fl with
        | ret u =>
          obtain ⟨v, σ', H', J, rv, q⟩ := hs
          exact fin J rv q
        | next =>
          obtain ⟨σ', H', J, q⟩ := hs
          exact fin (v := V.non) (u := Value.none) J rfl q
        | brk =>
          obtain ⟨_, _, _, q⟩ := hs
          exact False.elim q
        | cont =>
          obtain ⟨_, _, _, q⟩ := hs
          exact False.elim q
end
end Td
/-! Own exceptions of one field; several clauses with a name each; a datum in a tuple. -/
namespace Td
open PySem PySem.Spec PyProof.Rows L2
/-! ### a datum in a tuple of data -/
def rInDT (K : PySem.W.Frag) (neg : Bool) : R2 := fun x y H Q => ∃ d ds, Dp K H x d ∧ Dp K H y (.tuple ds) ∧ SeqAt.shaped d = true ∧ SeqAt.shaped (.tuple ds) = true ∧ Q (.bl (if neg then !(ds.any fun z => PyData.eqv z d) else ds.any fun z => PyData.eqv z d)) H
section
variable {X : Cx}
theorem op_inDT (hu : X.A.units + 65 < cLine) : OpR X (compareOp .In) (rInDT X.K false) := by
  rintro pins s σ H x y v u Q I rx ry ⟨d, ds, h1, h2, e1, e2, q⟩
  obtain ⟨la, ra⟩ := Dp.reads I d x v h1 rx
  obtain ⟨lb, rb⟩ := Dp.reads I (.tuple ds) y u h2 ry
  exact SeqAt.in_tuple_reads rb ra (SeqAt.canLay_of_shaped e2) (SeqAt.canLay_of_shaped e1) (room_in_shaped e1 hu) ⟨.bl _, H, I, rfl, q⟩
end
theorem units65 {k : Nat} {A : Around} (r : Room k A) : A.units + 65 < cLine := by have := r.un; omega
/-! ### an own exception of one field -/
def spExc (K : PySem.W.Frag) (C : Addr) : Str → Sp := fun f vs H Q _ => ∃ (a : Addr) (y : V), vs = [.ref a, y] ∧ H a = some (exo a C none) ∧
  ∀ dx H', H dx = none → dx ≠ a → H' = upd (upd H dx (exd dx [(f, y)])) a (exo a C (some dx)) → Q .non H'
/-- what a raise wants of the way out -/
def Rz (C : Addr) (f : Str) (y : V) (H : Hp) (E : XK) : Prop := ∀ (d : Addr) (H' : Hp), Same H H' → H d = none → H' d = some (.xd [(f, y)]) → E (.ref C) (some d) H'
theorem Rz.later {C : Addr} {f : Str} {y : V} {H H1 : Hp} {E : XK} (r : Rz C f y H E) (s : Same H H1) : Rz C f y H1 E := fun d H' s' hd e => by
  refine r d H' (s.trans s') ?_ e
  cases z : H d with
  | none => rfl
  | some o => rw [s _ _ z] at hd; cases hd
theorem one_field {H : Hp} {a C dx : Addr} {f : Str} {y : V} (ha : H a = none) (hx : dx ≠ a) :
    upd (del (upd (upd (upd H a (exo a C none)) dx (exd dx [(f, y)])) a (exo a C (some dx))) a) dx (.xd [(f, y)]) = upd H dx (.xd [(f, y)]) := by
  funext b
  by_cases h1 : b = dx
  · rw [h1, upd_same, upd_same]
  · rw [upd_ne h1, upd_ne h1]
    by_cases h2 : b = a
    · rw [h2, del_same, ha]
    · rw [del_ne h2, upd_ne h2, upd_ne h1, upd_ne h2]
/-- the making of such an exception, with its argument at hand -/
theorem made_one {K : PySem.W.Frag} {C : Addr} {f : Str} {y : V} {H : Hp} {Q : XK} (q : Rz C f y H Q) : [y].length ≤ 1000 ∧ ∀ a, H a = none → spExc K C f (.ref a :: ([y] ++ [])) (upd H a (exo a C none))
    (fun v H2 => v = .non ∧ ∃ (d : Addr) (fs : List (Str × V)), H2 a = some (exo a C (some d)) ∧ H2 d = some (exd d fs) ∧ H d = none ∧ Q (.ref C) (some d) (upd (del H2 a) d (.xd fs))) (fun _ _ _ => False) := by
  refine ⟨by show 1 ≤ 1000; decide, fun a ha => ⟨a, y, rfl, upd_same, fun dx H' hdx hne e => ⟨rfl, dx, [(f, y)], ?_, ?_, ?_, ?_⟩⟩⟩
  · rw [e]; exact upd_same
  · rw [e, upd_ne hne]; exact upd_same
  · rw [upd_ne hne] at hdx; exact hdx
  · have hd : H dx = none := by rw [upd_ne hne] at hdx; exact hdx
    rw [e, one_field ha hne]
    exact q dx _ (Same.new hd _) hd upd_same
/-! ### try: .. except A as e: .. except B as e: .. -/
abbrev SuiteT : Type := Addr → Value → Option Addr → TS
/-- D, slot i emptied ahead of it -/
def emptied (i : Nat) (D : Ends) : Ends := { nx := fun τ G => D.nx (τ.set i none) G, rt := D.rt, bk := fun τ G => D.bk (τ.set i none) G, ct := fun τ G => D.ct (τ.set i none) G }
def wAsL (K : PySem.W.Frag) (Wout : WX) (D : Ends) : List (Value × Nat × SuiteT) → WX
  | [] => Wout
  | q :: r => fun cls d σ H => ∃ b, PySem.W.exmOne K cls q.1 = some b ∧ (b = true → ∀ a, H a = none → q.2.2 a cls d (emptied q.2.1 D) (σ.set q.2.1 (some (.ref a))) H) ∧ (b = false → wAsL K Wout D r cls d σ H)
inductive Clauses (X : Cx) : List ExceptHandler → List (Value × Nat × SuiteT) → Prop
  | none : Clauses X [] []
  | more {x n : Str} {c : Value} {i : Nat} {t : SuiteT} {st : Stmt} {sts : List Stmt} {p p' : Pos} {hs : List ExceptHandler} {l : List (Value × Nat × SuiteT)} (hi : X.N[i]? = some n) (hn : X.env.kindOf n = some .local) (hc : L2.Names X x c)
      (go : ∀ (a : Addr) (o : Obj) (cls : Value) (d : Option Addr) (pn : List (Addr × Obj)), Zc cls d o → (∃ vs, o.data = .fields vs) → PSs (X.suite a ((a, o) :: pn)) (st :: sts) (t a cls d)) (r : Clauses X hs l) :
      Clauses X (.ExceptHandler (some (.Name x p)) (some n) (st :: sts) p' :: hs) ((c, i, t) :: l)
section
variable {X : Cx}
theorem ps_try_asL {body : List Stmt} {h : ExceptHandler} {hs : List ExceptHandler} {l : List (Value × Nat × SuiteT)} {pos : Pos} {tb : WX → TS} {Wout : WX} (h1 : X.stack = X.env :: X.outer) (h2 : X.env.frame = some X.env.locals) (nd : X.N.Nodup) (tk : Takes X Wout)
    (hb : ∀ (W : WX) (pn : List (Addr × Obj)) (xe : Value → Shared → Prop), Takes (X.tr pn xe) W → PassesOwn (model X.prog X.w) X.A X.env xe → PSs (X.tr pn xe) body (tb W))
    (hh : Clauses X (h :: hs) l) : PS X (.Try body (h :: hs) [] [] pos) (fun D σ H => tb (wAsL X.K Wout D l) D σ H) := by
  constructor
  intro pins s σ H D I want
  have okX := I.ok
  have frX : X.A.frames = some (X.env :: X.outer) := okX.frames.trans (congrArg some h1)
  refine wpAny_Try_except (wpAny_mono ((hb (wAsL X.K Wout D l) (X.pn ++ pins) (fun e s₁ => wpAny (model X.prog X.w) X.A (noteFrame e X.env) (fun _ s₂ => wpAny (model X.prog X.w) X.A (setFlight e none)
    (fun _ s₃ => wpAny (model X.prog X.w) X.A (handleBy e X.env (h :: hs)) (SP X pins D) X.xe s₃) X.xe s₂) X.xe s₁) (fun u s1 got => ?_) PassesOwn.looking).run [] s σ H D (I.toTry _) want) (fun fl s1 fin => ?_) fun _ _ z => z)
  · obtain ⟨a, B, sI, pins', τ, G, cls, d, rfl, J0, nb, up, sky, na, os, ag, w⟩ := got
    have J := J0.ofTry okX
    rw [h1] at sky
    show wpAny (model X.prog X.w) X.A (noteFrame (.ref a) X.env) _ _ _
    refine Sky.land Zc.steady frX h2 sky fun hp fly up1 => ?_
    have JP : Inv X pins τ G { s1 with heap := hp } := J.landed nb fly.1 (up.trans up1) os ag
    obtain ⟨o, vs, ho, hz, hd⟩ := fly.there
    have off : a ∉ frs (X.env :: X.outer) := fun m => by
      obtain ⟨_, o', e', nf⟩ := fly.2.2.1.mem m
      rw [ho] at e'
      cases e'
      exact nf _ hd
    have offL : a ≠ X.env.locals := fun z => off (List.mem_filterMap.mpr ⟨X.env, List.mem_cons_self, by rw [h2, z]⟩)
    have offF : a ∉ X.fs := fun m => by
      obtain ⟨ev, he, q⟩ := List.mem_filterMap.mp m
      exact off (List.mem_filterMap.mpr ⟨ev, List.mem_cons_of_mem _ he, q⟩)
    have SP0 := JP.suite ho hd na offL offF
    suffices all : ∀ {hs' : List ExceptHandler} {l' : List (Value × Nat × SuiteT)}, Clauses X hs' l' → wAsL X.K Wout D l' cls d τ G → wpAny (model X.prog X.w) X.A (handleBy (.ref a) X.env hs') (SP X pins D) X.xe { s1 with heap := hp } from all hh w
    intro hs' l' cl
    induction cl with
    | none =>
      intro w0
      refine wpAny_handleBy_nil ?_
      obtain ⟨_, _, _, o1, vs1, T, _, _, ho1, _, hd1, hv1, _⟩ := id fly
      unfold PySem.passOn
      refine wpAny_bind (wpAny_field ho1 hd1 hv1 ?_)
      rw [if_neg (show ¬ ((Value.ref T == Value.none) = true) by simp)]
      have away : wpAny (model X.prog X.w) X.A (setFlight (.ref a) X.env.frame) (fun _ s4 => wpAny (model X.prog X.w) X.A (throw (.ref a) : Sem Flow) (SP X pins D) X.xe s4) X.xe { s1 with heap := hp } := by
        rw [h2]
        exact HandSPX.setFlight_upZ fly fun hq kq uq => wpAny_throw (tk _ _ ⟨a, B, sI, pins, τ, G, cls, d, rfl, J, nb, (up.trans up1).trans uq, .inr (.inr (by rw [h1]; exact kq)), na, os, ag, w0⟩)
      first
        | exact wpAny_bind (wpAny_pure (wpAny_bind away))
        | exact wpAny_bind away
    | @more x n c i t st sts p p' hs2 l2 hi hn hc go r ih =>
      intro w0
      obtain ⟨b, hm, yes, no⟩ := w0
      refine wpAny_handleBy_cons (codeAny_handlers_test ?_) (by intro q; cases q)
      have tyA : PySem.W.Looks (model X.prog X.w) hp (typeOf (.ref a)) cls := fun _ _ _ _ k q => wpAny_typeOf_ref (k _ _ ho) (by rw [hz.1]; exact q)
      have mt := PySem.W.exm_one (M := model X.prog X.w) JP.kIn tyA hm
      have name : ∀ {Q : Value → Shared → Prop} {E : Value → Shared → Prop}, Q c { s1 with heap := hp } → wpAny (model X.prog X.w) (X.A.mark (some (.ref a))) (eval (.Name x p) X.env) Q E { s1 with heap := hp } := fun q => by
        rcases hc with ⟨hg, hdb, hm1 | ⟨hm1, hv1, hn1⟩⟩
        · exact ld_glob (X := X.suite a ((a, o) :: (X.pn ++ pins))) SP0 hg hm1 q hdb
        · exact ld_blt (X := X.suite a ((a, o) :: (X.pn ++ pins))) SP0 hg hm1 hv1 q hn1 hdb
      refine name (mt.here ?_)
      cases b with
      | false => exact ih (no rfl)
      | true =>
        refine codeAny_handlers_suite_as (HandSPX.lands_againZ fly fun hq fq uq => ?_)
        have JQ : Inv X pins τ G { s1 with heap := hq } := J.landed nb fq.1 ((up.trans up1).trans uq) os ag
        obtain ⟨oq, vq, hoq, hzq, hdq⟩ := fq.there
        refine store_ok (X := X.suite a ((a, oq) :: (X.pn ++ pins))) (v := .ref a) (JQ.suite hoq hdq na offL offF) nd hi (.inl hn) rfl (fun s5 S5 => ?_) (.inr hn)
        refine wpAny_mono ((go a oq cls d (X.pn ++ pins) hzq ⟨_, hdq⟩).run [] s5 _ G _ S5 (yes rfl a na)) (fun fl s6 e6 => ?_) fun _ _ z => z.elim
        have gone : ∀ {τ6 : L2.St} {G6 : Hp} {Q : Shared → Prop}, Inv (X.suite a ((a, oq) :: (X.pn ++ pins))) [] τ6 G6 s6 → (∀ s7, Inv X pins (τ6.set i none) G6 s7 → Q s7) →
            wpAny (model X.prog X.w) X.A (do bindName X.env n .none; unbindBehindTheSuite X.env n p') (fun _ s7 => Q s7) X.xe s6 := fun S6 hq => gone_ok (S6.unsuite okX) nd hi hn hq
        cases fl with
        | next => exact let ⟨_, _, S6, q6⟩ := e6; gone S6 fun _ J7 => ⟨_, _, J7, q6⟩
        | brk => exact let ⟨_, _, S6, q6⟩ := e6; gone S6 fun _ J7 => ⟨_, _, J7, q6⟩
        | cont => exact let ⟨_, _, S6, q6⟩ := e6; gone S6 fun _ J7 => ⟨_, _, J7, q6⟩
        | ret u => exact let ⟨_, _, _, S6, r6, q6⟩ := e6; gone S6 fun _ J7 => ⟨_, _, _, J7, r6, q6⟩
  · cases fl with
    | next => exact let ⟨τ, G, J, q⟩ := fin; wpAny_execs_nil ⟨τ, G, J.ofTry okX, q⟩
    | brk => exact let ⟨τ, G, J, q⟩ := fin; ⟨τ, G, J.ofTry okX, q⟩
    | cont => exact let ⟨τ, G, J, q⟩ := fin; ⟨τ, G, J.ofTry okX, q⟩
    | ret u => exact let ⟨v, τ, G, J, r, q⟩ := fin; ⟨v, τ, G, J.ofTry okX, r, q⟩
end
end Td
/-! Walks of a comprehension with two iterables: the body stays unread. -/
namespace Td
open PySem PySem.Spec PyProof.Rows L2
section
variable {K : PySem.W.Frag} {a : Addr} {us : List V} {B : (Hp → Prop) → V → Hp → Prop} {H0 : Hp} {End : Hp → Prop}
theorem walk_list (J : Nat → Hp → Prop) (start : J 0 H0) (there : ∀ i H, i ≤ us.length → J i H → SqL K H a us) (turn : ∀ i x H, us[i]? = some x → J i H → B (J (i + 1)) x H) (over : ∀ H, J us.length H → End H) :
    ∃ W : Nat → Nat → Hp → Prop, (∃ m, W 0 m H0) ∧ ∀ i m H, W i m H → ((Itl K a).stop i H ∧ End H) ∨ ((Itl K a).go i H ∧ ∃ Nx : Hp → Prop, (∀ H', Nx H' → ∃ m', m' < m ∧ W (i + 1) m' H') ∧ ∀ x H', (Itl K a).yld i H x H' → B Nx x H') := by
  refine ⟨fun i m H => i ≤ us.length ∧ m + i = us.length ∧ J i H, ⟨us.length, Nat.zero_le _, rfl, start⟩, fun i m H ⟨le, em, j⟩ => ?_⟩
  have here := there i H le j
  rcases Nat.lt_or_eq_of_le le with lt | eq
  · exact .inr ⟨⟨us, us[i], here, List.getElem?_eq_getElem lt⟩, J (i + 1), fun H' j' => ⟨m - 1, by omega, by omega, by omega, j'⟩, fun x H' y => by
      cases y.1
      exact turn i x H (y.2 us here) j⟩
  · refine .inl ⟨⟨us, here, by omega⟩, over H ?_⟩
    rw [← eq]; exact j
theorem walk_tup (J : Nat → Hp → Prop) (start : J 0 H0) (there : ∀ i H, i ≤ us.length → J i H → SqT K H a us) (turn : ∀ i x H, us[i]? = some x → J i H → B (J (i + 1)) x H) (over : ∀ H, J us.length H → End H) :
    ∃ W : Nat → Nat → Hp → Prop, (∃ m, W 0 m H0) ∧ ∀ i m H, W i m H → ((Itt K a).stop i H ∧ End H) ∨ ((Itt K a).go i H ∧ ∃ Nx : Hp → Prop, (∀ H', Nx H' → ∃ m', m' < m ∧ W (i + 1) m' H') ∧ ∀ x H', (Itt K a).yld i H x H' → B Nx x H') := by
  refine ⟨fun i m H => i ≤ us.length ∧ m + i = us.length ∧ J i H, ⟨us.length, Nat.zero_le _, rfl, start⟩, fun i m H ⟨le, em, j⟩ => ?_⟩
  have here := there i H le j
  rcases Nat.lt_or_eq_of_le le with lt | eq
  · exact .inr ⟨⟨us, us[i], here, List.getElem?_eq_getElem lt⟩, J (i + 1), fun H' j' => ⟨m - 1, by omega, by omega, by omega, j'⟩, fun x H' y => by
      cases y.1
      exact turn i x H (y.2 us here) j⟩
  · refine .inl ⟨⟨us, here, by omega⟩, over H ?_⟩
    rw [← eq]; exact j
end
end Td
/-! A dict whose only key is a tuple, written out. -/
namespace Td
open PySem PySem.Spec PyProof.Rows L2
def tDispT (tk tv : TE) : TE := fun σ H Q => ∀ p, H p = none → tk σ (upd H p (.dT [])) fun y H1 => tv σ H1 fun v H2 => H2 p = some (.dT []) ∧ ∃ (b : Addr) (k : List L2.Key), y = .ref b ∧ H2 b = some (.tup (k.map kV)) ∧ Q (.ref p) (upd H2 p (.dT [(k, v)]))
theorem pe_dispT {X : Cx} {pos : Pos} {k v : Expr} {tk tv : TE} (hu : X.A.units + 1 < cLine) (hk : PE X k tk) (hv : PE X v tv) : PE X (.Dict [some k] [v] pos) (tDispT tk tv) := by
  refine ⟨fun pins s σ H Q I q => ?_⟩
  have hn := I.hok.fresh (Nat.le_refl s.heap.objs.size)
  have I1 := I.laid (a := s.heap.objs.size) (o := .dT []) (h' := s.heap.push { cls := .type "dict", data := .dict #[] }) (t' := s.toks) (fun _ _ q => Heap.get?_push_of_some _ q) (Nat.le_refl _) (dt_empty s.heap I.big)
  rw [arm_eval_Dict, zip_pairTrees [some k] [v] X.env pos rfl rfl, dictDisplay_pairs _ (fun z => by cases z) (by show 1 < 17; decide)]
  refine wpAny_bind (wpAny_standAt (wpAny_bind ?_))
  refine wpAny_subDictH (knd := tupleKind (mixKind X.prog X.w)) (by show X.A.units < cLine; omega) (by show 1 ≤ 15; decide) ?_
  refine pairTrees_cons_walk (thn (hk.run pins _ σ _ _ I1 (q _ hn)) fun u s1 ⟨y, H1, I2, ry, q1⟩ => thn (hv.run pins s1 σ H1 _ I2 q1) fun w2 s2 ⟨z, H2, I3, rz, q2⟩ => pairTrees_nil_walk ?_)
  obtain ⟨e, b, ks, rfl, eb, q3⟩ := q2
  cases (show u = Value.ref b from ry)
  obtain ⟨_, hd, xs, rel, dd⟩ := dt_of I3.hok e
  cases rel
  refine ⟨[(ks, b, w2)], ⟨rfl, rfl, key_of I3.hok eb, trivial⟩, dd, fun h' tk' dd' hs => wpAny_pure ⟨.ref s.heap.objs.size, _, ?_, rfl, q3⟩⟩
  obtain ⟨o, es, ep, hq, h2, h3, h4, _, h5⟩ := dd'
  refine d_write I3 (by rw [e]; exact True.intro) hs ⟨o, hq⟩ ⟨by rw [sizeLine_eq]; show 1 ≤ _; omega, hd, _, .cons ⟨rfl, ?_, rz⟩ .nil, o, es, ep, hq, h2, h3, h4, h5⟩
  rw [upd_ne (ne_of eb e (fun z => nomatch z))]
  exact eb
end Td
namespace Td
open PySem PySem.Spec PyProof.Rows L2
theorem walk_range {lo : Int} {n : Nat} {B : (Hp → Prop) → V → Hp → Prop} {H0 : Hp} {End : Hp → Prop} (J : Nat → Hp → Prop) (start : J 0 H0) (turn : ∀ i H, i < n → J i H → B (J (i + 1)) (.int (lo + i)) H) (over : ∀ H, J n H → End H) :
    ∃ W : Nat → Nat → Hp → Prop, (∃ m, W 0 m H0) ∧ ∀ i m H, W i m H → ((Itr lo n).stop i H ∧ End H) ∨ ((Itr lo n).go i H ∧ ∃ Nx : Hp → Prop, (∀ H', Nx H' → ∃ m', m' < m ∧ W (i + 1) m' H') ∧ ∀ x H', (Itr lo n).yld i H x H' → B Nx x H') := by
  refine ⟨fun i m H => m = n - i ∧ i ≤ n ∧ J i H, ⟨n, by simp, Nat.zero_le _, start⟩, ?_⟩
  rintro i m H ⟨rfl, hi, p⟩
  by_cases hlt : i < n
  · refine .inr ⟨hlt, J (i + 1), fun H' p' => ⟨n - (i + 1), by omega, rfl, hlt, p'⟩, fun x H' y => ?_⟩
    obtain ⟨e, y⟩ := y
    subst e y
    exact turn i _ hlt p
  · have e : i = n := by omega
    subst e
    exact .inl ⟨Nat.le_refl _, over H p⟩
/-- rows of a kind, each a tuple of its own -/
def RowsG {α : Type} (f : α → V) (H : Hp) (xs : List V) (L : List (List α)) : Prop := xs.length = L.length ∧ ∀ (i : Nat) (r : List α), L[i]? = some r → ∃ b : Addr, xs[i]? = some (V.ref b) ∧ H b = some (.tup (r.map f))
section
variable {α : Type} {f : α → V}
theorem RowsG.nil {H : Hp} : RowsG f H [] [] := ⟨rfl, fun i r h => by simp at h⟩
theorem RowsG.append {H : Hp} {xs ys : List V} {L M : List (List α)} (h : RowsG f H xs L) (g : RowsG f H ys M) : RowsG f H (xs ++ ys) (L ++ M) := by
  refine ⟨by rw [List.length_append, List.length_append, h.1, g.1], fun i r e => ?_⟩
  by_cases hi : i < L.length
  · rw [List.getElem?_append_left hi] at e
    obtain ⟨b', e1, e2⟩ := h.2 i r e
    exact ⟨b', by rw [List.getElem?_append_left (by rw [h.1]; exact hi)]; exact e1, e2⟩
  · rw [List.getElem?_append_right (by omega)] at e
    obtain ⟨b', e1, e2⟩ := g.2 _ r e
    exact ⟨b', by rw [List.getElem?_append_right (by rw [h.1]; omega), h.1]; exact e1, e2⟩
theorem RowsG.one {H : Hp} {b : Addr} {r : List α} (hb : H b = some (.tup (r.map f))) : RowsG f H [.ref b] [r] := ⟨rfl, fun i r' e => by
  cases i with
  | zero => cases e; exact ⟨b, rfl, hb⟩
  | succ k => simp at e⟩
theorem RowsG.get {H : Hp} {xs : List V} {L : List (List α)} {i : Nat} {x : V} (h : RowsG f H xs L) (e : xs[i]? = some x) : ∃ r b, L[i]? = some r ∧ x = .ref b ∧ H b = some (.tup (r.map f)) := by
  have hi : i < L.length := by rw [← h.1]; exact (List.getElem?_eq_some_iff.mp e).1
  obtain ⟨b, e1, e2⟩ := h.2 i L[i] (List.getElem?_eq_getElem hi)
  rw [e1] at e
  exact ⟨L[i], b, List.getElem?_eq_getElem hi, (Option.some.inj e).symm, e2⟩
end
end Td
namespace Td
open PySem PySem.Spec PyProof.Rows L2
section
theorem ext_tup (l b : Addr) (items items2 : Array Value) (n : Nat) (hs0 : ¬(!items.isEmpty && Builtin.List.listTooLong (items.size + items2.size)) = true) (hs1 : items.size ≤ sizeLine) (hs3 : items2.size ≤ sizeLine) (hs2 : items.size + items2.size ≤ sizeLine + 1) :
    Meets (Builtin.«list.extend» ⟨[.ref l, .ref b], []⟩) (fun _ R s => s.heap.get? l = some { cls := .type "list", dict := none, data := .seq items n, slots := #[] } ∧ s.heap.IsTuple b items2 ∧ R (.ok (.ret Value.none)) { s with heap := s.heap.update l (Obj.mapSeq fun x => x ++ items2) }) :=
  .of_wp fun prog w A R s h => by
    obtain ⟨hl, ⟨o, ho, hc, n2, hd⟩, hR⟩ := h
    show wpAny _ _ (Builtin.List.listExtendWith (.ref l) (.ref b) .none) _ _ s
    unfold Builtin.List.listExtendWith
    refine wpAny_bind (wpAny_typeOf ⟨o, ho, hc⟩ ?_)
    have h1 : (Builtin.List.listSameRef (.ref l) (.ref b) || Value.type "tuple" == Value.type "list" || Value.type "tuple" == Value.type "tuple") = true := by simp
    simp only [h1, if_true]
    refine wpAny_bind ?_
    unfold Builtin.List.listItems
    refine wpAny_bind (wpAny_seqItems ho hd ?_)
    try refine wpAny_pure ?_
    refine wpAny_bind ?_
    refine wpAny_bind (wpAny_seqItems hl rfl ?_)
    try refine wpAny_pure ?_
    rw [if_neg hs0]
    have hz' : (items ++ items2).size ≤ sizeLine + 1 := by rw [Array.size_append]; exact hs2
    refine wpAny_bind (wpAny_updateSeq hl rfl ?_ (hz := hs1) (_hz' := hz'))
    exact wpAny_pure ⟨_, rfl, hR⟩
variable {X : Cx}
/-- l.extend(t), t a tuple -/
def rExtendT (K : PySem.W.Frag) : V → List V → Hp → VK → Prop := fun x vs H Q => ∃ l b xs zs, x = .ref l ∧ vs = [.ref b] ∧ H l = some (.lst xs) ∧ SqT K H b zs ∧ xs.length + zs.length ≤ sizeLine ∧ Q .non (upd H l (.lst (xs ++ zs)))
theorem mt_extendT : MtM X "list.extend" (rExtendT X.K) := by
  intro pins s σ H x vs v us Q I rx rv h
  obtain ⟨l, b, xs, zs, rfl, rfl, hH, hB, hz, q⟩ := h
  cases rx
  obtain ⟨u, rfl, ru⟩ := rv.one
  cases ru
  obtain ⟨z, its, n, r, hl, e⟩ := I.lstM hH
  obtain ⟨its2, r2, e2, hz2⟩ := I.tuple hB
  have hl2 := r2.length
  have hsz : its.toArray.size + its2.toArray.size ≤ sizeLine := by rw [List.size_toArray, List.size_toArray]; omega
  have hlong : ¬ (!its.toArray.isEmpty && Builtin.List.listTooLong (its.toArray.size + its2.toArray.size)) = true := by
    have e3 : Builtin.List.listTooLong (its.toArray.size + its2.toArray.size) = false := by
      unfold Builtin.List.listTooLong
      exact decide_eq_false (by have := sizeLine_eq; omega)
    rw [e3, Bool.and_false]
    exact Bool.false_ne_true
  refine call_meets F.slot_list_extend ⟨_, e, rfl⟩ F.entry_list_extend (F.args_list_extend_2 _ _)
    (ext_tup l b its.toArray its2.toArray n hlong (by rw [List.size_toArray]; omega) (by rw [List.size_toArray]; omega) (by omega)) ⟨e, e2, ?_⟩
  refine ⟨.non, _, I.lset (its' := its ++ its2) hH e (by simp) (r.append r2) ?_, rfl, q⟩
  rw [List.length_append]
  omega
end
end Td
namespace Td
open PySem PySem.Spec PyProof.Rows L2
section
variable {X : Cx}
theorem sw_trueD {kx vx : Expr} {gs : List Comprehension} {scope : Scope} {pos py : Pos} {y : Str} {l : Nat} {env : PySem.Env} (hk : env.scope.kind = .function) (hy : env.scope.names.lookup y = some .local) (hl : (py.line == pos.line) = true)
    (ha : (scope.names.any fun (n, k) => n == y && (k == .local || k == .cell)) = false) : swapsWith (.DictComp kx vx gs scope pos) (some (.Name y py)) l env = pure true := by
  have ky : env.kindOf y = some .local := hy
  have hb : env.blockKind = .function := by unfold Env.blockKind; rw [hk]; rfl
  unfold swapsWith
  simp only [hb, ky, ha, Expr.pos, hl]
  rfl
/-- y = {k: v for ..}, y a plain local name -/
theorem ps_setDc {i : Nat} {y : Str} {py : Pos} {kx vx tg iter : Expr} {ifs : List Expr} {scope : Scope} {own : List (Str × Nat)} {pos spos : Pos} {wi : TI} {g : TG} {tt : TT} {tk tv : TE} (hc : X.calm = true) (hN : X.N.Nodup) (hy : X.N[i]? = some y) (hyl : X.env.scope.names.lookup y = some .local)
    (hsw : swapsWith (.DictComp kx vx [⟨tg, iter, ifs, 0⟩] scope pos) (some (.Name y py)) spos.line X.env = pure true) (hi : PI X tg iter wi) (ok : BlkOk X.N X.env.scope scope own)
    (hg : ∀ (s : Shared) (H : Hp) (C : Addr) (cl : List (Str × Addr)) (fp : List Addr), PG (X.blk s H scope (compEnvC scope cl C X.env) fp) tg g) (ht : ∀ (s : Shared) (H : Hp) (C : Addr) (cl : List (Str × Addr)) (fp : List Addr), PTs (X.blk s H scope (compEnvC scope cl C X.env) fp) ifs tt)
    (hk : ∀ (s : Shared) (H : Hp) (C : Addr) (cl : List (Str × Addr)) (fp : List Addr), PE (X.blk s H scope (compEnvC scope cl C X.env) fp) kx tk)
    (he : ∀ (s : Shared) (H : Hp) (C : Addr) (cl : List (Str × Addr)) (fp : List Addr), PE (X.blk s H scope (compEnvC scope cl C X.env) fp) vx tv) (hs : ∀ x, foldedSetIterable iter X.env x = pure x := by intro _; rfl) :
    PS X (.Assign [.Name y py] (.DictComp kx vx [⟨tg, iter, ifs, 0⟩] scope pos) spos) (tAsg (tDc wi g tt tk tv (own.map (·.2))) (gName i)) := by
  refine ⟨fun pins s σ H D I h => ?_⟩
  rw [exec_Assign_Name_used _ _ _ _ hsw]
  refine wpAny_bind (wpAny_standAt (wpAny_bind ?_))
  show wpAny _ X.A (do let _ ← comprehension (.DictComp kx vx [⟨tg, iter, ifs, 0⟩] scope pos) scope X.env (firstIterPos [⟨tg, iter, ifs, 0⟩] pos) newDict false (eval iter X.env) (some (assign (.Name y py) X.env))) _ _ s
  have h : tDc wi g tt tk tv (own.map (·.2)) σ H (fun x H1 => gName i x σ H1 D.nx) := h
  refine wpAny_bind (thn (dc_core (Qf := fun _ s' => SP X pins D .next s') hc hN I hi ok hg ht hk he hs h fun L C s' m H' I' q hn f => ?_) fun _ s' hq => wpAny_pure (wpAny_pure hq))
  show wpAny _ _ (assign (.Name y py) X.env (.ref L)) _ _ _
  refine wpAny_assign_Name (store_ok2 (v := V.ref L) I' hN hy (.inl hyl) rfl (fun s2 I2 ⟨a, sb, ha⟩ => ?_) (.inr hyl))
  obtain ⟨f0, f1, f2, f3, f4, f5⟩ := f
  have haC : C ≠ a := by
    rcases ha with z | z
    · rw [z]; exact f1
    · exact fun e => f4 y a z e.symm
  refine ⟨m, hn.sameBut sb haC, fun h3 sb3 => ?_⟩
  exact ⟨_, H', I2.turned (t' := s2.toks) (fun b o hb e => (sb3.2 b hb).trans e) f0 f1 f3 f4 f5, q⟩
end
end Td
namespace Td
open PySem PySem.Spec PyProof.Rows L2
theorem walk_kT {d : Addr} {od : Obj} {kvs : List (List L2.Key × V)} {B : (Hp → Prop) → V → Hp → Prop} {H0 : Hp} {End : Hp → Prop} (J : Nat → Hp → Prop) (start : J 0 H0) (there : ∀ i H, i ≤ kvs.length → J i H → H d = some (.frz od (.dT kvs)))
    (turn : ∀ i k v q H, kvs[i]? = some (k, v) → J i H → H q = some (.tup (k.map kV)) → B (J (i + 1)) (.ref q) H) (over : ∀ H, J kvs.length H → End H) :
    ∃ W : Nat → Nat → Hp → Prop, (∃ m, W 0 m H0) ∧ ∀ i m H, W i m H → ((Itkt d od kvs).stop i H ∧ End H) ∨ ((Itkt d od kvs).go i H ∧ ∃ Nx : Hp → Prop, (∀ H', Nx H' → ∃ m', m' < m ∧ W (i + 1) m' H') ∧ ∀ x H', (Itkt d od kvs).yld i H x H' → B Nx x H') := by
  refine ⟨fun i m H => i ≤ kvs.length ∧ m + i = kvs.length ∧ J i H, ⟨kvs.length, Nat.zero_le _, rfl, start⟩, fun i m H ⟨le, em, j⟩ => ?_⟩
  have here := there i H le j
  rcases Nat.lt_or_eq_of_le le with lt | eq
  · refine .inr ⟨⟨here, lt⟩, J (i + 1), fun H' j' => ⟨m - 1, by omega, by omega, by omega, j'⟩, fun x H' y => ?_⟩
    obtain ⟨e1, k, v, q, e2, e3, e4⟩ := y
    cases e1
    subst e3
    exact turn i k v q H e2 j e4
  · refine .inl ⟨⟨here, by omega⟩, over H ?_⟩
    rw [← eq]; exact j
end Td
namespace Td
open PySem PySem.Spec PyProof.Rows L2
theorem for_kT {d : Addr} {od : Obj} {kvs : List (List L2.Key × V)} {g : TG} {tb : TS} {D : Ends} {σ : L2.St} {H : Hp} (Pv : Nat → L2.St → Hp → Prop) (h0 : Pv 0 σ H) (there : ∀ i σ H, i ≤ kvs.length → Pv i σ H → H d = some (.frz od (.dT kvs)))
    (hs : ∀ i k v b σ H, kvs[i]? = some (k, v) → Pv i σ H → H b = some (.tup (k.map kV)) → g (.ref b) σ H fun σ2 H2 => tb { D with nx := Pv (i + 1), ct := Pv (i + 1), bk := D.nx } σ2 H2) (hd : ∀ σ H, Pv kvs.length σ H → D.nx σ H) :
    ∃ W : Nat → Nat → L2.St → Hp → Prop, (∃ m, W 0 m σ H) ∧ ∀ i m σ H, W i m σ H →
      ((Itkt d od kvs).stop i H ∧ D.nx σ H) ∨ ((Itkt d od kvs).go i H ∧ ∃ N : L2.St → Hp → Prop, (∀ σ' H', N σ' H' → ∃ m', m' < m ∧ W (i + 1) m' σ' H') ∧ ∀ x H', (Itkt d od kvs).yld i H x H' → g x σ H' fun σ2 H2 => tb { D with nx := N, ct := N, bk := D.nx } σ2 H2) := by
  refine ⟨fun i m σ H => m + i = kvs.length ∧ i ≤ kvs.length ∧ Pv i σ H, ⟨kvs.length, rfl, Nat.zero_le _, h0⟩, ?_⟩
  rintro i m σ H ⟨em, hi, p⟩
  have here := there i σ H hi p
  rcases Nat.lt_or_eq_of_le hi with lt | eq
  · refine .inr ⟨⟨here, lt⟩, Pv (i + 1), fun σ' H' p' => ⟨m - 1, by omega, by omega, by omega, p'⟩, fun x H' y => ?_⟩
    obtain ⟨e1, k, v, q, e2, e3, e4⟩ := y
    cases e1
    subst e3
    exact hs i k v q σ H e2 p e4
  · subst eq
    exact .inl ⟨⟨here, Nat.le_refl _⟩, hd σ H p⟩
end Td
/-! A tuple made by the program, known to have no own dict: its method index. -/
namespace Td
open PySem PySem.Spec PyProof.Rows L2
def FzT (H : Hp) (a : Addr) (xs : List V) : Prop := ∃ o : Obj, H a = some (.frz o (.tup xs)) ∧ o.dict = none
section
variable {K : PySem.W.Frag} {H H' : Hp} {a D st : Addr} {xs : List V}
theorem FzT.sq (h : FzT H a xs) : SqT K H a xs := by
  obtain ⟨o, e, _⟩ := h
  exact .inl (.inr ⟨o, e⟩)
theorem FzT.same (s : Same H H') (h : FzT H a xs) : FzT H' a xs := let ⟨o, e, d⟩ := h; ⟨o, s _ _ e, d⟩
theorem FzT.keep (k : Keep st H H') (n : a ≠ st) (h : FzT H a xs) : FzT H' a xs := let ⟨o, e, d⟩ := h; ⟨o, k _ _ n e, d⟩
theorem FzT.tk (k : TK H H') (h : FzT H a xs) : FzT H' a xs := let ⟨o, e, d⟩ := h; ⟨o, k.2 _ _ _ e, d⟩
end
section
variable {X : Cx}
/-- tuple(xs), xs a list: a new tuple as it stands -/
theorem call_tuple_ofF : CallR X (.type "tuple") (fun xs H Q => ∃ p ys, xs = [.ref p] ∧ SqL X.K H p ys ∧ ∀ (o : Obj) (l : Addr), o.dict = none → H l = none → Q (.ref l) (upd H l (.frz o (.tup ys)))) := by
  intro pins s σ H xs us Q I r h
  obtain ⟨p, ys, rfl, hq, q⟩ := h
  obtain ⟨u, rfl, rx⟩ := vals1 r
  cases rx
  obtain ⟨its, r', pl, hz⟩ := I.list hq
  have hlen := r'.length
  refine call_tuple_list pl.isList (fun h' kp => ?_) (by simp only [List.size_toArray] <;> omega)
  have I1 : Inv X pins σ H { s with heap := h' } := I.kept (t' := s.toks) kp
  have I2 : Inv X pins σ (upd H h'.objs.size (.frz { cls := .type "tuple", data := .seq its.toArray } (.tup ys))) { s with heap := h'.push { cls := .type "tuple", data := .seq its.toArray } } :=
    I1.laid (t' := s.toks) (fun b o e => Heap.get?_push_of_some _ e) (Nat.le_refl _) (show ObjOk X.prog X.w _ _ _ (.frz _ (.tup ys)) from ⟨Heap.get?_push_size _ rfl, hz, its, r', IsTup.new _ _⟩)
  exact ⟨.ref h'.objs.size, _, I2, rfl, q _ _ rfl (I1.hok.fresh (Nat.le_refl _))⟩
def tTIdx (K : PySem.W.Frag) (to : TE) (t : TA) : TE := fun σ H Q => to σ H fun x H1 => ∃ a us, x = .ref a ∧ FzT H1 a us ∧ t σ H1 fun xs H2 => ∃ p, ∃ ys : List Str, ∃ z j, x = .ref p ∧ xs = [.str z] ∧ SqT K H2 p (ys.map V.str) ∧ ys[j]? = some z ∧ (∀ m, m < j → ys[m]? ≠ some z) ∧ Q (.int (j : Nat)) H2
variable {o e : Expr} {es : List Expr} {to : TE} {t : TA} {apos cpos : Pos}
theorem pe_tidx (ho : PE X o to) (ha : PA X (e :: es) t)
    (hbase : attributeBase o "index" X.env (eval o X.env) = eval o X.env := by rfl)
    (hfew : ((backTo cpos (starEach (e :: es) X.env)).all (fun x => !x.1) && (backToKw cpos (keywordEach [] X.env)).all (fun x => x.1.isSome)
      && decide ((e :: es).length + ([] : List Keyword).length + (if ([] : List Keyword).isEmpty then 0 else 1) < 30)) = true := by rfl)
    (hline : (apos.endLine == cpos.line) = true := by rfl) (hs : starEach (e :: es) X.env = (false, eval e X.env) :: starEach es X.env := by rfl) (hplain : (backTo cpos (starEach es X.env)).any (·.1) = false := by rfl) :
    PE X (.Call (.Attribute o "index" apos) (e :: es) [] cpos) (tTIdx X.K to t) := by
  refine ⟨fun pins s σ H Q I h => ?_⟩
  refine wpAny_Call_method_late hbase hfew hline rfl (thn (ho.run pins s σ H _ I h) fun v s1 ⟨x, H1, I1, r1, q1⟩ => ?_)
  obtain ⟨a, us, rfl, ⟨ob, eo, od⟩, q1⟩ := q1
  cases r1
  obtain ⟨e1, _, its, _, o2, e2, hc, _⟩ := I1.hok a _ eo
  rw [e1] at e2
  cases e2
  have h1 : s1.TypeIs (.ref a) "tuple" := ⟨ob, e1, hc⟩
  have h2 : ∀ b, Value.ref a = .ref b → ∃ ob, s1.heap.get? b = some ob ∧ ob.dict = none := fun b z => by cases z; exact ⟨ob, e1, od⟩
  refine ⟨"tuple", "tuple.index", PySem.F.plainAttrs_tuple, PySem.F.slot_tuple_index, PySem.F.type_tuple_index, h1, h2, ?_⟩
  have hA := ha.run cpos pins s1 σ H1 _ I1 q1
  rw [hs] at hA ⊢
  refine Calls.callWith_builtin (by show (false || (backTo cpos (starEach es X.env)).any (·.1)) = false; rw [hplain] <;> rfl) (Calls.evalArgs_plain ?_)
  exact thn hA fun us s2 ⟨vs, H2, I2, r2, q2⟩ => mt_tup_index pins s2 σ H2 (.ref a) vs (.ref a) us Q I2 rfl r2 q2
end
/-- the parts of a program as they stand, the sources known as a tuple without an own dict -/
def DataX (K : PySem.W.Frag) (H : Hp) (v : V) (ws srcs : List Str) (dd de : PyData) : Prop :=
  ∃ (pa aw as : Addr) (vd ve : V), v = .ref pa ∧ SqT K H pa [.ref aw, .ref as, vd, ve] ∧ SqT K H aw (ws.map V.str) ∧ FzT H as (srcs.map V.str) ∧ Tn K H vd dd ∧ Tn K H ve de
section
variable {K : PySem.W.Frag} {H H' : Hp} {v : V} {ws srcs : List Str} {dd de : PyData}
theorem DataX.tk (k : TK H H') (h : DataX K H v ws srcs dd de) : DataX K H' v ws srcs dd de := by
  obtain ⟨pa, aw, as, vd, ve, e, h1, h2, h3, h4, h5⟩ := h
  exact ⟨pa, aw, as, vd, ve, e, SqT.tk k h1, SqT.tk k h2, h3.tk k, Tn.keep k h4, Tn.keep k h5⟩
theorem DataX.same (s : Same H H') (h : DataX K H v ws srcs dd de) : DataX K H' v ws srcs dd de := h.tk (TK.of_same s)
theorem DataX.tn (h : DataX K H v ws srcs dd de) : Tn K H v (.tuple [.tuple (ws.map PyData.str), .tuple (srcs.map PyData.str), dd, de]) := by
  obtain ⟨pa, aw, as, vd, ve, rfl, h1, h2, h3, h4, h5⟩ := h
  exact .tup h1 (.cons (.tup h2 (TnAll.strs _)) (.cons (.tup h3.sq (TnAll.strs _)) (.cons h4 (.cons h5 .nil))))
end
end Td
/-! Comprehensions that leave the heap as it was but for what they make: the new list by what each turn gives. -/
namespace Td
open PySem PySem.Spec PyProof.Rows L2
theorem filter_next {α : Type} {f : α → Bool} {l : List α} {i : Nat} {x : α} (h : l[i]? = some x) : (l.take (i + 1)).filter f = if f x = true then (l.take i).filter f ++ [x] else (l.take i).filter f := by
  rw [take_more h, List.filter_append]
  cases hf : f x <;> simp [hf]
/-- values that bear the things of a list, one each -/
structure Rws {α : Type} (R : Hp → V → α → Prop) (H : Hp) (zs : List V) (L : List α) : Prop where
  len : zs.length = L.length
  get : ∀ (i : Nat) (x : α), L[i]? = some x → ∃ v, zs[i]? = some v ∧ R H v x
section
variable {α : Type} {R : Hp → V → α → Prop} {H H' : Hp}
theorem Rws.nil : Rws R H [] [] := ⟨rfl, fun i x h => by simp at h⟩
theorem Rws.keep (m : ∀ {v x}, R H v x → R H' v x) {zs : List V} {L : List α} (h : Rws R H zs L) : Rws R H' zs L := ⟨h.len, fun i x e => by
  obtain ⟨v, h1, h2⟩ := h.get i x e
  exact ⟨v, h1, m h2⟩⟩
theorem Rws.snoc {zs : List V} {L : List α} {v : V} {x : α} (h : Rws R H zs L) (r : R H v x) : Rws R H (zs ++ [v]) (L ++ [x]) := by
  refine ⟨by rw [List.length_append, List.length_append, h.len]; rfl, fun i y e => ?_⟩
  by_cases hi : i < L.length
  · rw [List.getElem?_append_left hi] at e
    obtain ⟨v, h1, h2⟩ := h.get i y e
    exact ⟨v, by rw [List.getElem?_append_left (by rw [h.len]; exact hi)]; exact h1, h2⟩
  · rw [List.getElem?_append_right (by omega)] at e
    have : i - L.length = 0 := by
      have := (List.getElem?_eq_some_iff.mp e).1
      rw [List.length_singleton] at this
      omega
    rw [this] at e
    cases e
    exact ⟨v, by rw [List.getElem?_append_right (by rw [h.len]; omega), h.len, this]; rfl, r⟩
theorem Rws.inv {zs : List V} {L : List α} {i : Nat} {v : V} (h : Rws R H zs L) (e : zs[i]? = some v) : ∃ x, L[i]? = some x ∧ R H v x := by
  have hi : i < L.length := by rw [← h.len]; exact (List.getElem?_eq_some_iff.mp e).1
  obtain ⟨w, h1, h2⟩ := h.get i _ (List.getElem?_eq_getElem hi)
  rw [e] at h1
  cases h1
  exact ⟨_, List.getElem?_eq_getElem hi, h2⟩
theorem Rws.el {el : α → V} {zs : List V} {L : List α} (h : Rws (fun _ v x => v = el x) H zs L) : zs = L.map el := by
  refine List.ext_getElem? fun i => ?_
  rw [List.getElem?_map]
  by_cases hi : i < L.length
  · obtain ⟨w, h1, h2⟩ := h.get i _ (List.getElem?_eq_getElem hi)
    rw [h1, h2, List.getElem?_eq_getElem hi]
    rfl
  · rw [List.getElem?_eq_none (by rw [h.len]; omega), List.getElem?_eq_none (by omega)]
    rfl
theorem Rws.tn {K : PySem.W.Frag} {g : α → PyData} : ∀ {zs : List V} {L : List α}, Rws (fun H v x => Tn K H v (g x)) H zs L → TnAll K H zs (L.map g)
  | [], [], _ => .nil
  | [], _ :: _, h => by have := h.len; simp at this
  | _ :: _, [], h => by have := h.len; simp at this
  | v :: zs, x :: L, h => by
    obtain ⟨w, h1, h2⟩ := h.get 0 x rfl
    cases h1
    exact .cons h2 (Rws.tn ⟨by have := h.len; simpa using this, fun i y e => by simpa using h.get (i + 1) y (by simpa using e)⟩)
end
section
variable {K : PySem.W.Frag} {a : Addr} {xs : List V} {g : TG} {tt : TT} {te : TE} {vs : List Nat} {σ : L2.St} {H1 : Hp} {D : Addr} {Qd : Hp → Prop}
variable {α : Type} (L : List α) (en : α → V) (f : α → Bool) (R : Hp → V → α → Prop)
abbrev Turn (g : TG) (tt : TT) (te : TE) (vs : List Nat) (σ : L2.St) (v : V) (H : Hp) (Yes : V → Hp → Prop) (No : Hp → Prop) : Prop :=
  g v (wipe σ vs) H fun σ2 H2 => wipe σ2 vs = wipe σ vs ∧ tt σ2 H2 fun b H3 => if b = true then te σ2 H3 Yes else No H3
/-- over a tuple, any word J of the heap beside it -/
theorem bu_tup (J : Hp → Prop) (mono : ∀ {H H' : Hp} {v : V} {x : α}, TK H H' → R H v x → R H' v x) (hx : xs = L.map en) (hlen : L.length ≤ 1000) (h0 : J (upd H1 D (.lst [])))
    (hl : ∀ H', J H' → SqT K H' a xs) (hJ : ∀ (H' : Hp) (zs zs' : List V), J H' → H' D = some (.lst zs) → J (upd H' D (.lst zs')))
    (turn : ∀ (i : Nat) (x : α) (H' : Hp), L[i]? = some x → J H' → (∃ zs, H' D = some (.lst zs)) → ∀ (Yes : V → Hp → Prop) (No : Hp → Prop), (f x = true → ∀ (y : V) (H2 : Hp), J H2 → TK H' H2 → H2 D = H' D → R H2 y x → Yes y H2) → (f x = false → ∀ (H2 : Hp), J H2 → TK H' H2 → H2 D = H' D → No H2) → Turn g tt te vs σ (en x) H' Yes No)
    (over : ∀ (H' : Hp) (zs : List V), J H' → H' D = some (.lst zs) → Rws R H' zs (L.filter f) → Qd H') :
    ∃ W : Nat → Nat → Hp → Prop, (∃ m, W 0 m (upd H1 D (.lst []))) ∧ ∀ i m H, W i m H →
      ((Itt K a).stop i H ∧ Qd H) ∨ ((Itt K a).go i H ∧ ∃ Nx : Hp → Prop, (∀ H', Nx H' → ∃ m', m' < m ∧ W (i + 1) m' H') ∧ ∀ x H', (Itt K a).yld i H x H' → g x (wipe σ vs) H' fun σ2 H2 => wipe σ2 vs = wipe σ vs ∧ tt σ2 H2 fun b H3 =>
        if b = true then te σ2 H3 fun y H4 => ∃ acc, H4 D = some (.lst acc) ∧ acc.length < sizeLine ∧ Nx (upd H4 D (.lst (acc ++ [y]))) else Nx H3) := by
  refine lc_tup (K := K) (a := a) (xs := xs) (fun i H' => ∃ zs, J H' ∧ H' D = some (.lst zs) ∧ Rws R H' zs ((L.take i).filter f)) ⟨[], h0, upd_same, by rw [List.take_zero]; exact Rws.nil⟩ (fun i H' _ ⟨_, j, _⟩ => hl H' j) ?_ ?_
  · rintro i y H' hy ⟨zs, j, hz, hR⟩
    rw [hx, List.getElem?_map] at hy
    obtain ⟨x, hx', rfl⟩ := Option.map_eq_some_iff.mp hy
    have fn := filter_next (f := f) hx'
    have il := (List.getElem?_eq_some_iff.mp hx').1
    have zl : zs.length ≤ 1000 := by
      have := hR.len
      have h2 := List.length_filter_le f (L.take i)
      rw [List.length_take] at h2
      omega
    refine turn i x H' hx' j ⟨zs, hz⟩ _ _ (fun hf y H2 j2 tk e r => ?_) (fun hf H2 j2 tk e => ?_)
    · rw [hz] at e
      refine ⟨zs, e, small1000 (by omega), zs ++ [y], hJ H2 zs _ j2 e, upd_same, ?_⟩
      have tk2 : TK H2 (upd H2 D (.lst (zs ++ [y]))) := TK.upd (by rw [e]; trivial)
      rw [fn, if_pos hf]
      exact (hR.keep (mono (tk.trans tk2))).snoc (mono tk2 r)
    · rw [hz] at e
      refine ⟨zs, j2, e, ?_⟩
      rw [fn, if_neg (by rw [hf]; exact Bool.noConfusion)]
      exact hR.keep (mono tk)
  · rintro H' ⟨zs, j, hz, hR⟩
    rw [hx, List.length_map, List.take_length] at hR
    exact over H' zs j hz hR
theorem bu_list (J : Hp → Prop) (mono : ∀ {H H' : Hp} {v : V} {x : α}, TK H H' → R H v x → R H' v x) (hx : xs = L.map en) (hlen : L.length ≤ 1000) (h0 : J (upd H1 D (.lst [])))
    (hl : ∀ H', J H' → SqL K H' a xs) (hJ : ∀ (H' : Hp) (zs zs' : List V), J H' → H' D = some (.lst zs) → J (upd H' D (.lst zs')))
    (turn : ∀ (i : Nat) (x : α) (H' : Hp), L[i]? = some x → J H' → (∃ zs, H' D = some (.lst zs)) → ∀ (Yes : V → Hp → Prop) (No : Hp → Prop), (f x = true → ∀ (y : V) (H2 : Hp), J H2 → TK H' H2 → H2 D = H' D → R H2 y x → Yes y H2) → (f x = false → ∀ (H2 : Hp), J H2 → TK H' H2 → H2 D = H' D → No H2) → Turn g tt te vs σ (en x) H' Yes No)
    (over : ∀ (H' : Hp) (zs : List V), J H' → H' D = some (.lst zs) → Rws R H' zs (L.filter f) → Qd H') :
    ∃ W : Nat → Nat → Hp → Prop, (∃ m, W 0 m (upd H1 D (.lst []))) ∧ ∀ i m H, W i m H →
      ((Itl K a).stop i H ∧ Qd H) ∨ ((Itl K a).go i H ∧ ∃ Nx : Hp → Prop, (∀ H', Nx H' → ∃ m', m' < m ∧ W (i + 1) m' H') ∧ ∀ x H', (Itl K a).yld i H x H' → g x (wipe σ vs) H' fun σ2 H2 => wipe σ2 vs = wipe σ vs ∧ tt σ2 H2 fun b H3 =>
        if b = true then te σ2 H3 fun y H4 => ∃ acc, H4 D = some (.lst acc) ∧ acc.length < sizeLine ∧ Nx (upd H4 D (.lst (acc ++ [y]))) else Nx H3) := by
  refine lc_list (K := K) (a := a) (xs := xs) (fun i H' => ∃ zs, J H' ∧ H' D = some (.lst zs) ∧ Rws R H' zs ((L.take i).filter f)) ⟨[], h0, upd_same, by rw [List.take_zero]; exact Rws.nil⟩ (fun i H' _ ⟨_, j, _⟩ => hl H' j) ?_ ?_
  · rintro i y H' hy ⟨zs, j, hz, hR⟩
    rw [hx, List.getElem?_map] at hy
    obtain ⟨x, hx', rfl⟩ := Option.map_eq_some_iff.mp hy
    have fn := filter_next (f := f) hx'
    have il := (List.getElem?_eq_some_iff.mp hx').1
    have zl : zs.length ≤ 1000 := by
      have := hR.len
      have h2 := List.length_filter_le f (L.take i)
      rw [List.length_take] at h2
      omega
    refine turn i x H' hx' j ⟨zs, hz⟩ _ _ (fun hf y H2 j2 tk e r => ?_) (fun hf H2 j2 tk e => ?_)
    · rw [hz] at e
      refine ⟨zs, e, small1000 (by omega), zs ++ [y], hJ H2 zs _ j2 e, upd_same, ?_⟩
      have tk2 : TK H2 (upd H2 D (.lst (zs ++ [y]))) := TK.upd (by rw [e]; trivial)
      rw [fn, if_pos hf]
      exact (hR.keep (mono (tk.trans tk2))).snoc (mono tk2 r)
    · rw [hz] at e
      refine ⟨zs, j2, e, ?_⟩
      rw [fn, if_neg (by rw [hf]; exact Bool.noConfusion)]
      exact hR.keep (mono tk)
  · rintro H' ⟨zs, j, hz, hR⟩
    rw [hx, List.length_map, List.take_length] at hR
    exact over H' zs j hz hR
end
section
variable {g : TG} {tt : TT} {te : TE} {vs : List Nat} {σ : L2.St} {H1 : Hp} {D : Addr} {Qd : Hp → Prop}
theorem range_take {n i : Nat} (h : i < n) : (List.range n)[i]? = some i := by rw [List.getElem?_range h]
/-- over numbers -/
theorem bu_range {lo : Int} {n : Nat} (f : Nat → Bool) (R : Hp → V → Nat → Prop) (J : Hp → Prop) (mono : ∀ {H H' : Hp} {v : V} {x : Nat}, TK H H' → R H v x → R H' v x) (hlen : n ≤ 1000) (h0 : J (upd H1 D (.lst [])))
    (hJ : ∀ (H' : Hp) (zs zs' : List V), J H' → H' D = some (.lst zs) → J (upd H' D (.lst zs')))
    (turn : ∀ (i : Nat) (H' : Hp), i < n → J H' → (∃ zs, H' D = some (.lst zs)) → ∀ (Yes : V → Hp → Prop) (No : Hp → Prop), (f i = true → ∀ (y : V) (H2 : Hp), J H2 → TK H' H2 → H2 D = H' D → R H2 y i → Yes y H2) → (f i = false → ∀ (H2 : Hp), J H2 → TK H' H2 → H2 D = H' D → No H2) → Turn g tt te vs σ (.int (lo + (i : Nat))) H' Yes No)
    (over : ∀ (H' : Hp) (zs : List V), J H' → H' D = some (.lst zs) → Rws R H' zs ((List.range n).filter f) → Qd H') :
    ∃ W : Nat → Nat → Hp → Prop, (∃ m, W 0 m (upd H1 D (.lst []))) ∧ ∀ i m H, W i m H →
      ((Itr lo n).stop i H ∧ Qd H) ∨ ((Itr lo n).go i H ∧ ∃ Nx : Hp → Prop, (∀ H', Nx H' → ∃ m', m' < m ∧ W (i + 1) m' H') ∧ ∀ x H', (Itr lo n).yld i H x H' → g x (wipe σ vs) H' fun σ2 H2 => wipe σ2 vs = wipe σ vs ∧ tt σ2 H2 fun b H3 =>
        if b = true then te σ2 H3 fun y H4 => ∃ acc, H4 D = some (.lst acc) ∧ acc.length < sizeLine ∧ Nx (upd H4 D (.lst (acc ++ [y]))) else Nx H3) := by
  refine lc_range (lo := lo) (n := n) (fun i H' => ∃ zs, J H' ∧ H' D = some (.lst zs) ∧ Rws R H' zs (((List.range n).take i).filter f)) ⟨[], h0, upd_same, by rw [List.take_zero]; exact Rws.nil⟩ ?_ ?_
  · rintro i H' hi ⟨zs, j, hz, hR⟩
    have hx' := range_take hi
    have fn := filter_next (f := f) hx'
    have zl : zs.length ≤ 1000 := by
      have := hR.len
      have h2 := List.length_filter_le f ((List.range n).take i)
      rw [List.length_take] at h2
      omega
    refine turn i H' hi j ⟨zs, hz⟩ _ _ (fun hf y H2 j2 tk e r => ?_) (fun hf H2 j2 tk e => ?_)
    · rw [hz] at e
      refine ⟨zs, e, small1000 (by omega), zs ++ [y], hJ H2 zs _ j2 e, upd_same, ?_⟩
      have tk2 : TK H2 (upd H2 D (.lst (zs ++ [y]))) := TK.upd (by rw [e]; trivial)
      rw [fn, if_pos hf]
      exact (hR.keep (mono (tk.trans tk2))).snoc (mono tk2 r)
    · rw [hz] at e
      refine ⟨zs, j2, e, ?_⟩
      rw [fn, if_neg (by rw [hf]; exact Bool.noConfusion)]
      exact hR.keep (mono tk)
  · rintro H' ⟨zs, j, hz, hR⟩
    have e : (List.range n).take n = List.range n := List.take_of_length_le (by rw [List.length_range]; exact Nat.le_refl _)
    rw [e] at hR
    exact over H' zs j hz hR
end
/-! ### the heap as it was -/
section
variable {K : PySem.W.Frag} {a : Addr} {xs : List V} {g : TG} {tt : TT} {te : TE} {vs : List Nat} {σ : L2.St} {H1 : Hp} {D : Addr} {Qd : Hp → Prop}
variable {α : Type} (L : List α) (en : α → V) (f : α → Bool) (R : Hp → V → α → Prop)
/-- what stood stands, and the new list is a list -/
def JS (H1 : Hp) (D : Addr) (H' : Hp) : Prop := Same H1 H' ∧ ∃ zs, H' D = some (.lst zs)
theorem JS.start (hD : H1 D = none) : JS H1 D (upd H1 D (.lst [])) := ⟨Same.new hD _, [], upd_same⟩
theorem JS.put (hD : H1 D = none) (H' : Hp) (zs zs' : List V) (j : JS H1 D H') (_ : H' D = some (.lst zs)) : JS H1 D (upd H' D (.lst zs')) := ⟨own_same j.1 hD, zs', upd_same⟩
theorem JS.go {H' H2 : Hp} (j : JS H1 D H') (s : Same H' H2) : JS H1 D H2 ∧ H2 D = H' D := by
  obtain ⟨s1, zs, e⟩ := j
  exact ⟨⟨s1.trans s, zs, s _ _ e⟩, by rw [e]; exact s _ _ e⟩
theorem buS_tup (mono : ∀ {H H' : Hp} {v : V} {x : α}, TK H H' → R H v x → R H' v x) (hl : SqT K H1 a xs) (hx : xs = L.map en) (hlen : L.length ≤ 1000) (hD : H1 D = none)
    (turn : ∀ (i : Nat) (x : α) (H' : Hp), L[i]? = some x → Same H1 H' → ∀ (Yes : V → Hp → Prop) (No : Hp → Prop), (f x = true → ∀ (y : V) (H2 : Hp), Same H' H2 → R H2 y x → Yes y H2) → (f x = false → ∀ (H2 : Hp), Same H' H2 → No H2) → Turn g tt te vs σ (en x) H' Yes No)
    (over : ∀ (H' : Hp) (zs : List V), Same H1 H' → H' D = some (.lst zs) → Rws R H' zs (L.filter f) → Qd H') :
    ∃ W : Nat → Nat → Hp → Prop, (∃ m, W 0 m (upd H1 D (.lst []))) ∧ ∀ i m H, W i m H →
      ((Itt K a).stop i H ∧ Qd H) ∨ ((Itt K a).go i H ∧ ∃ Nx : Hp → Prop, (∀ H', Nx H' → ∃ m', m' < m ∧ W (i + 1) m' H') ∧ ∀ x H', (Itt K a).yld i H x H' → g x (wipe σ vs) H' fun σ2 H2 => wipe σ2 vs = wipe σ vs ∧ tt σ2 H2 fun b H3 =>
        if b = true then te σ2 H3 fun y H4 => ∃ acc, H4 D = some (.lst acc) ∧ acc.length < sizeLine ∧ Nx (upd H4 D (.lst (acc ++ [y]))) else Nx H3) :=
  bu_tup (K := K) (a := a) (xs := xs) L en f R (JS H1 D) mono hx hlen (JS.start hD) (fun H' j => SqT.same j.1 hl) (JS.put hD)
    (fun i x H' hx' j _ Yes No y n => turn i x H' hx' j.1 Yes No (fun hf v H2 s r => y hf v H2 (j.go s).1 (TK.of_same s) (j.go s).2 r) fun hf H2 s => n hf H2 (j.go s).1 (TK.of_same s) (j.go s).2)
    fun H' zs j hz hR => over H' zs j.1 hz hR
theorem buS_list (mono : ∀ {H H' : Hp} {v : V} {x : α}, TK H H' → R H v x → R H' v x) (hl : SqL K H1 a xs) (hx : xs = L.map en) (hlen : L.length ≤ 1000) (hD : H1 D = none)
    (turn : ∀ (i : Nat) (x : α) (H' : Hp), L[i]? = some x → Same H1 H' → ∀ (Yes : V → Hp → Prop) (No : Hp → Prop), (f x = true → ∀ (y : V) (H2 : Hp), Same H' H2 → R H2 y x → Yes y H2) → (f x = false → ∀ (H2 : Hp), Same H' H2 → No H2) → Turn g tt te vs σ (en x) H' Yes No)
    (over : ∀ (H' : Hp) (zs : List V), Same H1 H' → H' D = some (.lst zs) → Rws R H' zs (L.filter f) → Qd H') :
    ∃ W : Nat → Nat → Hp → Prop, (∃ m, W 0 m (upd H1 D (.lst []))) ∧ ∀ i m H, W i m H →
      ((Itl K a).stop i H ∧ Qd H) ∨ ((Itl K a).go i H ∧ ∃ Nx : Hp → Prop, (∀ H', Nx H' → ∃ m', m' < m ∧ W (i + 1) m' H') ∧ ∀ x H', (Itl K a).yld i H x H' → g x (wipe σ vs) H' fun σ2 H2 => wipe σ2 vs = wipe σ vs ∧ tt σ2 H2 fun b H3 =>
        if b = true then te σ2 H3 fun y H4 => ∃ acc, H4 D = some (.lst acc) ∧ acc.length < sizeLine ∧ Nx (upd H4 D (.lst (acc ++ [y]))) else Nx H3) :=
  bu_list (K := K) (a := a) (xs := xs) L en f R (JS H1 D) mono hx hlen (JS.start hD) (fun H' j => SqL.same j.1 hl) (JS.put hD)
    (fun i x H' hx' j _ Yes No y n => turn i x H' hx' j.1 Yes No (fun hf v H2 s r => y hf v H2 (j.go s).1 (TK.of_same s) (j.go s).2 r) fun hf H2 s => n hf H2 (j.go s).1 (TK.of_same s) (j.go s).2)
    fun H' zs j hz hR => over H' zs j.1 hz hR
theorem fiS_tup (el : α → V) (hl : SqT K H1 a xs) (hx : xs = L.map en) (hlen : L.length ≤ 1000) (hD : H1 D = none)
    (turn : ∀ (i : Nat) (x : α) (H' : Hp), L[i]? = some x → Same H1 H' → ∀ (Yes : V → Hp → Prop) (No : Hp → Prop), (f x = true → ∀ (H2 : Hp), Same H' H2 → Yes (el x) H2) → (f x = false → ∀ (H2 : Hp), Same H' H2 → No H2) → Turn g tt te vs σ (en x) H' Yes No)
    (over : ∀ (H' : Hp), Same H1 H' → H' D = some (.lst ((L.filter f).map el)) → Qd H') :
    ∃ W : Nat → Nat → Hp → Prop, (∃ m, W 0 m (upd H1 D (.lst []))) ∧ ∀ i m H, W i m H →
      ((Itt K a).stop i H ∧ Qd H) ∨ ((Itt K a).go i H ∧ ∃ Nx : Hp → Prop, (∀ H', Nx H' → ∃ m', m' < m ∧ W (i + 1) m' H') ∧ ∀ x H', (Itt K a).yld i H x H' → g x (wipe σ vs) H' fun σ2 H2 => wipe σ2 vs = wipe σ vs ∧ tt σ2 H2 fun b H3 =>
        if b = true then te σ2 H3 fun y H4 => ∃ acc, H4 D = some (.lst acc) ∧ acc.length < sizeLine ∧ Nx (upd H4 D (.lst (acc ++ [y]))) else Nx H3) :=
  buS_tup (K := K) (a := a) (xs := xs) L en f (fun _ v x => v = el x) (fun _ h => h) hl hx hlen hD
    (fun i x H' hx' s Yes No y n => turn i x H' hx' s Yes No (fun hf H2 s2 => y hf _ H2 s2 rfl) n)
    fun H' zs s hz hR => over H' s (by rw [← hR.el]; exact hz)
theorem fiS_list (el : α → V) (hl : SqL K H1 a xs) (hx : xs = L.map en) (hlen : L.length ≤ 1000) (hD : H1 D = none)
    (turn : ∀ (i : Nat) (x : α) (H' : Hp), L[i]? = some x → Same H1 H' → ∀ (Yes : V → Hp → Prop) (No : Hp → Prop), (f x = true → ∀ (H2 : Hp), Same H' H2 → Yes (el x) H2) → (f x = false → ∀ (H2 : Hp), Same H' H2 → No H2) → Turn g tt te vs σ (en x) H' Yes No)
    (over : ∀ (H' : Hp), Same H1 H' → H' D = some (.lst ((L.filter f).map el)) → Qd H') :
    ∃ W : Nat → Nat → Hp → Prop, (∃ m, W 0 m (upd H1 D (.lst []))) ∧ ∀ i m H, W i m H →
      ((Itl K a).stop i H ∧ Qd H) ∨ ((Itl K a).go i H ∧ ∃ Nx : Hp → Prop, (∀ H', Nx H' → ∃ m', m' < m ∧ W (i + 1) m' H') ∧ ∀ x H', (Itl K a).yld i H x H' → g x (wipe σ vs) H' fun σ2 H2 => wipe σ2 vs = wipe σ vs ∧ tt σ2 H2 fun b H3 =>
        if b = true then te σ2 H3 fun y H4 => ∃ acc, H4 D = some (.lst acc) ∧ acc.length < sizeLine ∧ Nx (upd H4 D (.lst (acc ++ [y]))) else Nx H3) :=
  buS_list (K := K) (a := a) (xs := xs) L en f (fun _ v x => v = el x) (fun _ h => h) hl hx hlen hD
    (fun i x H' hx' s Yes No y n => turn i x H' hx' s Yes No (fun hf H2 s2 => y hf _ H2 s2 rfl) n)
    fun H' zs s hz hR => over H' s (by rw [← hR.el]; exact hz)
theorem buS_range {lo : Int} {n : Nat} (f : Nat → Bool) (R : Hp → V → Nat → Prop) (mono : ∀ {H H' : Hp} {v : V} {x : Nat}, TK H H' → R H v x → R H' v x) (hlen : n ≤ 1000) (hD : H1 D = none)
    (turn : ∀ (i : Nat) (H' : Hp), i < n → Same H1 H' → ∀ (Yes : V → Hp → Prop) (No : Hp → Prop), (f i = true → ∀ (y : V) (H2 : Hp), Same H' H2 → R H2 y i → Yes y H2) → (f i = false → ∀ (H2 : Hp), Same H' H2 → No H2) → Turn g tt te vs σ (.int (lo + (i : Nat))) H' Yes No)
    (over : ∀ (H' : Hp) (zs : List V), Same H1 H' → H' D = some (.lst zs) → Rws R H' zs ((List.range n).filter f) → Qd H') :
    ∃ W : Nat → Nat → Hp → Prop, (∃ m, W 0 m (upd H1 D (.lst []))) ∧ ∀ i m H, W i m H →
      ((Itr lo n).stop i H ∧ Qd H) ∨ ((Itr lo n).go i H ∧ ∃ Nx : Hp → Prop, (∀ H', Nx H' → ∃ m', m' < m ∧ W (i + 1) m' H') ∧ ∀ x H', (Itr lo n).yld i H x H' → g x (wipe σ vs) H' fun σ2 H2 => wipe σ2 vs = wipe σ vs ∧ tt σ2 H2 fun b H3 =>
        if b = true then te σ2 H3 fun y H4 => ∃ acc, H4 D = some (.lst acc) ∧ acc.length < sizeLine ∧ Nx (upd H4 D (.lst (acc ++ [y]))) else Nx H3) :=
  bu_range f R (JS H1 D) mono hlen (JS.start hD) (JS.put hD)
    (fun i H' hx' j _ Yes No y n => turn i H' hx' j.1 Yes No (fun hf v H2 s r => y hf v H2 (j.go s).1 (TK.of_same s) (j.go s).2 r) fun hf H2 s => n hf H2 (j.go s).1 (TK.of_same s) (j.go s).2)
    fun H' zs j hz hR => over H' zs j.1 hz hR
theorem fiS_range {lo : Int} {n : Nat} (f : Nat → Bool) (el : Nat → V) (hlen : n ≤ 1000) (hD : H1 D = none)
    (turn : ∀ (i : Nat) (H' : Hp), i < n → Same H1 H' → ∀ (Yes : V → Hp → Prop) (No : Hp → Prop), (f i = true → ∀ (H2 : Hp), Same H' H2 → Yes (el i) H2) → (f i = false → ∀ (H2 : Hp), Same H' H2 → No H2) → Turn g tt te vs σ (.int (lo + (i : Nat))) H' Yes No)
    (over : ∀ (H' : Hp), Same H1 H' → H' D = some (.lst (((List.range n).filter f).map el)) → Qd H') :
    ∃ W : Nat → Nat → Hp → Prop, (∃ m, W 0 m (upd H1 D (.lst []))) ∧ ∀ i m H, W i m H →
      ((Itr lo n).stop i H ∧ Qd H) ∨ ((Itr lo n).go i H ∧ ∃ Nx : Hp → Prop, (∀ H', Nx H' → ∃ m', m' < m ∧ W (i + 1) m' H') ∧ ∀ x H', (Itr lo n).yld i H x H' → g x (wipe σ vs) H' fun σ2 H2 => wipe σ2 vs = wipe σ vs ∧ tt σ2 H2 fun b H3 =>
        if b = true then te σ2 H3 fun y H4 => ∃ acc, H4 D = some (.lst acc) ∧ acc.length < sizeLine ∧ Nx (upd H4 D (.lst (acc ++ [y]))) else Nx H3) :=
  buS_range f (fun _ v x => v = el x) (fun _ h => h) hlen hD
    (fun i H' hx' s Yes No y n => turn i H' hx' s Yes No (fun hf H2 s2 => y hf _ H2 s2 rfl) n)
    fun H' zs s hz hR => over H' s (by rw [← hR.el]; exact hz)
end
theorem filter_all {α : Type} (L : List α) : L.filter (fun _ => true) = L := List.filter_eq_self.mpr fun _ _ => rfl
/-- a test that is known -/
theorem if_known {c : Bool} {A B : Prop} (yes : c = true → A) (no : c = false → B) : if c = true then A else B := by
  cases c with
  | true => exact if_true_of rfl (yes rfl)
  | false => exact if_false_of rfl (no rfl)
end Td
/-! factorial of small numbers, the count of True in a list of truths, a call of what an expression gives. -/
namespace Td
open PySem PySem.Spec PyProof.Rows L2
section
variable {X : Cx}
def facN (n : Nat) : Nat := Builtin.Math.factorialNat n
def rFac : List V → Hp → VK → Prop := fun vs H Q => ∃ n : Nat, vs = [.int (n : Nat)] ∧ n ≤ 12 ∧ Q (.int ((facN n : Nat) : Int)) H
theorem fac_small : ∀ n, n ≤ 12 → facN n < 2 ^ 40 := by decide +kernel
theorem cr_factorial : CallR X (.builtin "math.factorial") rFac := by
  intro pins s σ H vs us Q I r h
  obtain ⟨n, rfl, hn, q⟩ := h
  obtain ⟨u, rfl, t, rfl⟩ := r.one
  have b := fac_small n hn
  unfold facN at b q
  refine PySem.W.mg_factorial (by show ¬ (n : Int) > 2 ^ 63 - 1; omega) (by omega) (by show ¬ (n : Int) > 20000; omega) ?_ ⟨.int _, H, I.tok _, ⟨_, rfl⟩, q⟩
  rw [Int.toNat_natCast, Int.natAbs_natCast]
  have : (Builtin.Math.factorialNat n).log2 ≤ 40 := by
    by_cases h0 : Builtin.Math.factorialNat n = 0
    · rw [h0]; decide
    · exact Nat.le_of_lt_succ (Nat.lt_succ_of_lt ((Nat.log2_lt h0).mpr b))
  exact Nat.lt_of_le_of_lt this (by decide)
def isTrueV (v : Value) : Bool := match v with
  | .bool b => b
  | _ => false
theorem bools_of : ∀ {bs : List Bool} {us : List Value}, Vals (bs.map V.bl) us → us = bs.map Value.bool
  | [], us, h => by cases h; rfl
  | b :: bs, us, h => by
    cases h with
    | cons a r =>
      cases a
      rw [bools_of r]
      rfl
def rCntB (K : PySem.W.Frag) : V → List V → Hp → VK → Prop := fun x xs H Q => ∃ (p : Addr) (bs : List Bool), x = .ref p ∧ xs = [.bl true] ∧ SqL K H p (bs.map V.bl) ∧ Q (.int (bs.count true : Nat)) H
theorem mt_lcountB : MtR X "list.count" (rCntB X.K) := by
  intro pins s σ H x xs v us Q I rx rxs h
  obtain ⟨p, bs, rfl, rfl, hs, q⟩ := h
  cases rx
  obtain ⟨u, rfl, ru⟩ := rxs.one
  cases ru
  obtain ⟨its, rv, ⟨⟨cls, dd, data, sl⟩, n, ho, hc, hdn, hd⟩, hlen⟩ := I.list hs
  simp only at hc hd
  subst hc hd
  have hi := bools_of rv
  refine call_meets PySem.F.slot_list_count ⟨_, ho, rfl⟩ PySem.F.entry_list_count (PySem.F.args_list_count_2 _ _)
    (SeqAt.list_countAt p its.toArray n dd sl (.bool true) isTrueV) ⟨ho, fun y hy => ?_, ?_⟩
  · have hy' : y ∈ bs.map Value.bool := by rw [← hi]; simpa using hy
    obtain ⟨b, _, rfl⟩ := List.mem_map.mp hy'
    have := SeqAt.EqAt.bool_bool (A := X.A.in1) (s := s) b true
    have e : (b == true) = isTrueV (.bool b) := by cases b <;> rfl
    rw [e] at this
    exact this
  · have ec : its.toArray.toList.countP isTrueV = bs.count true := by
      show its.countP isTrueV = _
      rw [hi, List.countP_map, List.count]
      refine List.countP_congr fun b _ => ?_
      cases b <;> simp [isTrueV]
    refine ⟨.int (bs.count true : Nat), H, I.tok _, ⟨s.toks, ?_⟩, q⟩
    show Value.int ((its.toArray.toList.countP isTrueV : Nat) : Int) s.toks = Value.int ((bs.count true : Nat) : Int) s.toks
    rw [ec]
end
/-! ### a call of a def that an expression gives, of several that it may give -/
/-- a def with what it promises, its own exceptions let through -/
structure HeldE (P : Program) (w : World) (K : PySem.W.Frag) (mg : Str → Option Value) (base : Heap) (CX : CXT) (k : Nat) (f : Addr) (sp : Sp) : Prop where
  ex : ∃ (fd : FuncData) (ps : List Str), FnOk P w K mg base CX k f fd ps sp ∧ PySem.W.keepIn K (.ref f) = true ∧ Binds K fd ps []
def tCallE (S : Addr → Sp → Prop) (E : XK) (tf : TE) (t : TA) : TE := fun σ H Q => tf σ H fun y H1 => ∃ f sp, y = V.ref f ∧ S f sp ∧ t σ H1 fun vs H2 => sp vs H2 Q E
section
variable {X : Cx} {CX : CXT} {k : Nat} {p pos : Pos} {fe e : Expr} {es : List Expr} {tf : TE} {t : TA} {E : XK}
theorem pe_callE {S : Addr → Sp → Prop} (A : ∀ f sp, S f sp → HeldE X.prog X.w X.K X.mg X.base CX k f sp) (hr : Room k X.A) (hx : Passes CX X E) (hf : PE X fe tf) (ha : PA X (e :: es) t)
    (ht : eval (.Call fe (e :: es) [] pos) X.env = (do callWith pos (← eval fe X.env) [] (backTo pos (starEach (e :: es) X.env)) (backToKw pos (keywordEach [] X.env))) := by rfl)
    (he : starEach (e :: es) X.env = (false, eval e X.env) :: starEach es X.env := by rfl) (hpl : (backTo pos (starEach es X.env)).any (·.1) = false := by rfl) : PE X (.Call fe (e :: es) [] pos) (tCallE S E tf t) := by
  refine ⟨fun pins s σ H Q I h => ?_⟩
  refine Call_ (thn (hf.run pins s σ H _ I h) fun u s1 ⟨y, H1, I1, ry, f, sp, ey, hS, q⟩ => ?_) ht
  subst ey
  obtain rfl : u = Value.ref f := ry
  obtain ⟨fd, ps, F, hk, hb⟩ := (A f sp hS).ex
  refine PySem.W.callWith_K (h₀ := X.base) I1.ok.mod.kin hk (thn (ha.run pos pins s1 σ H1 _ I1 q) fun us s2 ⟨vs, H2, I2, r, q2⟩ => ⟨I2.kIn, ?_⟩) he hpl
  refine run_fn F hr hb .nil hx I2 r ?_
  rw [List.append_nil]
  exact q2
end
end Td
/-! Rows found by steps, rows put there, reads put ahead, reads that became peeks: a run tells the same. -/
namespace Td
open PySem PySem.Spec PyProof.Rows L2
def getI {α : Type} (l : List α) (i : Int) : Option α := if 0 ≤ i then l[i.toNat]? else none
theorem getI_nat {α : Type} (l : List α) (i : Nat) : getI l (i : Nat) = l[i]? := if_pos (by omega)
def rowAt : List Row → List Int → Option Row
  | _, [] => none
  | rs, [i] => getI rs i
  | rs, i :: j :: st => match getI rs i with
    | some (.ite _ _ y n) => if j = 0 then rowAt y st else if j = 1 then rowAt n st else none
    | _ => none
def setAt : List Row → List Int → Row → List Row
  | rs, [], _ => rs
  | rs, [i], r => rs.set i.toNat r
  | rs, i :: j :: st, r => match getI rs i with
    | some (.ite s u y n) => if j = 0 then rs.set i.toNat (.ite s u (setAt y st r) n) else rs.set i.toNat (.ite s u y (setAt n st r))
    | _ => rs
/-! ### the slots that rows name -/
def slotR : Row → Str
  | .rd _ _ s => s
  | .put s _ => s
  | .give s => s
  | .say s => s
  | .wr _ s => s
  | .ite s _ _ _ => s
mutual
def slotsR : Row → List Str
  | .ite s _ y n => s :: (slotsRs y ++ slotsRs n)
  | .rd _ _ s => [s]
  | .put s _ => [s]
  | .give s => [s]
  | .say s => [s]
  | .wr _ s => [s]
def slotsRs : List Row → List Str
  | [] => []
  | r :: rs => slotsR r ++ slotsRs rs
end
theorem slotsRs_append : ∀ rs ts, slotsRs (rs ++ ts) = slotsRs rs ++ slotsRs ts
  | [], ts => by simp [slotsRs]
  | r :: rs, ts => by rw [List.cons_append]; simp only [slotsRs, slotsRs_append rs ts, List.append_assoc]
mutual
theorem slotsR_len : ∀ r, (slotsR r).length = Td.cnt r
  | .ite _ _ y n => by simp only [slotsR, Td.cnt, List.length_cons, List.length_append, slotsRs_len y, slotsRs_len n]; omega
  | .rd .. => by simp [slotsR, Td.cnt]
  | .put .. => by simp [slotsR, Td.cnt]
  | .give .. => by simp [slotsR, Td.cnt]
  | .say .. => by simp [slotsR, Td.cnt]
  | .wr .. => by simp [slotsR, Td.cnt]
theorem slotsRs_len : ∀ rs, (slotsRs rs).length = cnts rs
  | [] => by simp [slotsRs, cnts]
  | r :: rs => by simp only [slotsRs, cnts, List.length_append, slotsR_len r, slotsRs_len rs]
end
theorem slotR_first (r : Row) : slotR r ∈ slotsR r := by cases r <;> simp [slotR, slotsR]
/-! ### rows some of whose reads became peeks -/
mutual
def pkR : Row → Row → Prop
  | .rd _ c s, t => ∃ pk, t = .rd pk c s
  | .ite s u y n, t => ∃ y' n', t = .ite s u y' n' ∧ pkRs y y' ∧ pkRs n n'
  | .put s u, t => t = .put s u
  | .give s, t => t = .give s
  | .say s, t => t = .say s
  | .wr c s, t => t = .wr c s
def pkRs : List Row → List Row → Prop
  | [], t => t = []
  | r :: rs, t => ∃ r' rs', t = r' :: rs' ∧ pkR r r' ∧ pkRs rs rs'
end
mutual
theorem pkR_refl : ∀ r, pkR r r
  | .rd pk c s => by unfold pkR; exact ⟨pk, rfl⟩
  | .ite s u y n => by unfold pkR; exact ⟨y, n, rfl, pkRs_refl y, pkRs_refl n⟩
  | .put .. => by unfold pkR; rfl
  | .give .. => by unfold pkR; rfl
  | .say .. => by unfold pkR; rfl
  | .wr .. => by unfold pkR; rfl
theorem pkRs_refl : ∀ rs, pkRs rs rs
  | [] => by unfold pkRs; rfl
  | r :: rs => by unfold pkRs; exact ⟨r, rs, rfl, pkR_refl r, pkRs_refl rs⟩
end
theorem pkRs_len : ∀ {rs ts}, pkRs rs ts → ts.length = rs.length
  | [], ts, h => by unfold pkRs at h; rw [h]
  | r :: rs, ts, h => by
    unfold pkRs at h
    obtain ⟨r', rs', rfl, _, h2⟩ := h
    rw [List.length_cons, List.length_cons, pkRs_len h2]
theorem pkRs_get : ∀ {rs ts : List Row} {i : Nat} {r : Row}, pkRs rs ts → rs[i]? = some r → ∃ t, ts[i]? = some t ∧ pkR r t
  | [], ts, i, r, _, e => by simp at e
  | x :: rs, ts, i, r, h, e => by
    unfold pkRs at h
    obtain ⟨r', rs', rfl, h1, h2⟩ := h
    cases i with
    | zero => cases e; exact ⟨r', rfl, h1⟩
    | succ i => exact pkRs_get (i := i) h2 (by simpa using e)
theorem pkRs_set : ∀ {rs ts : List Row} {i : Nat} {r t : Row}, pkRs rs ts → rs[i]? = some r → pkR r t → pkRs rs (ts.set i t)
  | [], ts, i, r, t, _, e, _ => by simp at e
  | x :: rs, ts, i, r, t, h, e, hp => by
    unfold pkRs at h ⊢
    obtain ⟨r', rs', rfl, h1, h2⟩ := h
    cases i with
    | zero => cases e; exact ⟨t, rs', rfl, hp, h2⟩
    | succ i => exact ⟨r', rs'.set i t, rfl, h1, pkRs_set (i := i) h2 (by simpa using e) hp⟩
theorem rowAt_two {rs : List Row} {i j : Int} {st : List Int} {r : Row} (h : rowAt rs (i :: j :: st) = some r) : ∃ (k : Nat) (s u : Str) (y n : List Row), i = (k : Nat) ∧ rs[k]? = some (.ite s u y n) ∧ ((j = 0 ∧ rowAt y st = some r) ∨ (j = 1 ∧ rowAt n st = some r)) := by
  unfold rowAt at h
  have hg : ∀ x, getI rs i = some x → ∃ k : Nat, i = (k : Nat) ∧ rs[k]? = some x := fun x e => by
    unfold getI at e
    split at e
    · exact ⟨i.toNat, by omega, e⟩
    · cases e
  split at h
  · rename_i s u y n e
    obtain ⟨k, e1, e2⟩ := hg _ e
    refine ⟨k, s, u, y, n, e1, e2, ?_⟩
    split at h
    · rename_i hj; exact .inl ⟨hj, h⟩
    · split at h
      · rename_i hj; exact .inr ⟨hj, h⟩
      · cases h
  · cases h
theorem rowAt_one {rs : List Row} {i : Int} {r : Row} (h : rowAt rs [i] = some r) : ∃ k : Nat, i = (k : Nat) ∧ rs[k]? = some r := by
  unfold rowAt getI at h
  split at h
  · exact ⟨i.toNat, by omega, h⟩
  · cases h
/-- the rows stay so when one more read becomes a peek -/
theorem pkRs_peek : ∀ (st : List Int) {rs ts : List Row} {pk : Bool} {c s : Str}, pkRs rs ts → rowAt rs st = some (.rd pk c s) → pkRs rs (setAt ts st (.rd true c s))
  | [], rs, ts, pk, c, s, _, e => by unfold rowAt at e; cases e
  | [i], rs, ts, pk, c, s, h, e => by
    obtain ⟨k, rfl, e⟩ := rowAt_one e
    show pkRs rs (ts.set ((k : Nat) : Int).toNat _)
    exact pkRs_set h e (by unfold pkR; exact ⟨true, rfl⟩)
  | i :: j :: st, rs, ts, pk, c, s, h, e => by
    obtain ⟨k, s', u, y, n, rfl, e1, e2⟩ := rowAt_two e
    obtain ⟨t, ht, hp⟩ := pkRs_get h e1
    unfold pkR at hp
    obtain ⟨y', n', rfl, hy, hn⟩ := hp
    unfold setAt
    rw [getI_nat, ht]
    show pkRs rs (if j = 0 then ts.set ((k : Nat) : Int).toNat _ else _)
    rcases e2 with ⟨rfl, e2⟩ | ⟨rfl, e2⟩
    · rw [if_pos rfl]
      exact pkRs_set h e1 (by unfold pkR; exact ⟨_, _, rfl, pkRs_peek st hy e2, hn⟩)
    · rw [if_neg (by decide)]
      exact pkRs_set h e1 (by unfold pkR; exact ⟨_, _, rfl, hy, pkRs_peek st hn e2⟩)
/-! ### a run beside its changed one -/
def heardS (st : RS) : List Str := (st.noted ++ st.peeked).map (·.1)
structure Sim (F : Str) (E : List Str) (st st' : RS) : Prop where
  sl : ∀ s, s ≠ F → getE st'.slots s = getE st.slots s
  sa : st'.said = st.said
  wr : st'.written = st.written
  gi : st'.given = st.given
  he : ∀ c, c ∈ heardS st' ↔ c ∈ E ∨ c ∈ heardS st
  pre : E <+: st'.noted.map (·.1)
theorem Sim.word {F : Str} {E : List Str} {st st' : RS} (h : Sim F E st st') (d : Str) {s : Str} (hs : s ≠ F) : st'.word d s = st.word d s := by
  unfold RS.word
  rw [h.sl s hs]
theorem putE_keys (L : Env) (k v c : Str) : c ∈ (putE L k v).map (·.1) ↔ c = k ∨ c ∈ L.map (·.1) := by
  unfold putE
  split
  · rename_i h
    have e : (L.map fun p => if p.1 = k then (p.1, v) else p).map (·.1) = L.map (·.1) := by
      rw [List.map_map]
      refine List.map_congr_left fun p _ => ?_
      show (if p.1 = k then (p.1, v) else p).1 = p.1
      split <;> rfl
    rw [e]
    refine ⟨.inr, fun h2 => h2.elim (fun e => ?_) id⟩
    obtain ⟨p, hp, e2⟩ := List.any_eq_true.mp h
    rw [e, ← of_decide_eq_true e2]
    exact List.mem_map_of_mem hp
  · rw [List.map_append, List.mem_append]
    exact ⟨fun h => h.elim .inr fun h => .inl (by simpa using h), fun h => h.elim (fun h => .inr (by simp [h])) .inl⟩
theorem getE_key {L : Env} {k : Str} (h : (getE L k).isSome = true) : k ∈ L.map (·.1) := by
  rw [← getE_any] at h
  obtain ⟨p, hp, e⟩ := List.any_eq_true.mp h
  rw [← of_decide_eq_true e]
  exact List.mem_map_of_mem hp
theorem sdE_keys (L : Env) (k v c : Str) : c ∈ (sdE L k v).map (·.1) ↔ c = k ∨ c ∈ L.map (·.1) := by
  unfold sdE
  split
  · rename_i h
    exact ⟨.inr, fun g => g.elim (fun e => by rw [e]; exact getE_key h) id⟩
  · exact putE_keys ..
theorem sdE_pre (L : Env) (k v : Str) : L.map (·.1) <+: (sdE L k v).map (·.1) := by
  unfold sdE
  split
  · exact List.prefix_refl _
  · rename_i h
    unfold putE
    rw [getE_any, if_neg h, List.map_append]
    exact List.prefix_append _ _
theorem heard_rd {pk : Bool} {c s : Str} {kn : Str → Str} {d : Str} {st : RS} (x : Str) : x ∈ heardS (runR kn d (.rd pk c s) st).1 ↔ x = c ∨ x ∈ heardS st := by
  unfold heardS
  simp only [runR, List.map_append, List.mem_append]
  cases pk
  · simp only [Bool.false_eq_true, if_false, sdE_keys, or_assoc]
  · simp only [if_true, sdE_keys]
    exact ⟨fun h => h.elim (fun h => .inr (.inl h)) fun h => h.elim .inl fun h => .inr (.inr h), fun h => h.elim (fun h => .inr (.inl h)) fun h => h.elim .inl fun h => .inr (.inr h)⟩
theorem rd_pre {pk : Bool} {c s : Str} {kn : Str → Str} {d : Str} {st : RS} : st.noted.map (·.1) <+: (runR kn d (.rd pk c s) st).1.noted.map (·.1) := by
  simp only [runR]
  cases pk
  · exact sdE_pre ..
  · exact List.prefix_refl _
mutual
theorem sim_R (kn : Str → Str) (d : Str) {F : Str} {E : List Str} : ∀ (r r' : Row) (st st' : RS), pkR r r' → F ∉ slotsR r → Sim F E st st' → (runR kn d r' st').2 = (runR kn d r st).2 ∧ Sim F E (runR kn d r st).1 (runR kn d r' st').1
  | .rd pk c s, r', st, st', hp, hF, h => by
    unfold pkR at hp
    obtain ⟨pk', rfl⟩ := hp
    refine ⟨rfl, fun z hz => ?_, h.sa, h.wr, h.gi, fun x => ?_, h.pre.trans rd_pre⟩
    · show getE (putE st'.slots s (kn c)) z = getE (putE st.slots s (kn c)) z
      rw [getE_put, getE_put, h.sl z hz]
    · rw [heard_rd, heard_rd, h.he]
      exact ⟨fun g => g.elim (fun g => .inr (.inl g)) fun g => g.elim .inl fun g => .inr (.inr g), fun g => g.elim (fun g => .inr (.inl g)) fun g => g.elim .inl fun g => .inr (.inr g)⟩
  | .put s u, r', st, st', hp, hF, h => by
    unfold pkR at hp
    subst hp
    refine ⟨rfl, fun z hz => ?_, h.sa, h.wr, h.gi, h.he, h.pre⟩
    show getE (putE st'.slots s u) z = getE (putE st.slots s u) z
    rw [getE_put, getE_put, h.sl z hz]
  | .give s, r', st, st', hp, hF, h => by
    unfold pkR at hp
    subst hp
    have hs : s ≠ F := fun e => hF (by unfold slotsR; rw [e]; exact List.mem_cons_self)
    exact ⟨rfl, h.sl, h.sa, h.wr, h.word d hs, h.he, h.pre⟩
  | .say s, r', st, st', hp, hF, h => by
    unfold pkR at hp
    subst hp
    have hs : s ≠ F := fun e => hF (by unfold slotsR; rw [e]; exact List.mem_cons_self)
    refine ⟨rfl, h.sl, ?_, h.wr, h.gi, h.he, h.pre⟩
    show st'.said ++ [st'.word d s] = st.said ++ [st.word d s]
    rw [h.sa, h.word d hs]
  | .wr c s, r', st, st', hp, hF, h => by
    unfold pkR at hp
    subst hp
    have hs : s ≠ F := fun e => hF (by unfold slotsR; rw [e]; exact List.mem_cons_self)
    refine ⟨rfl, h.sl, h.sa, ?_, h.gi, h.he, h.pre⟩
    show st'.written ++ [(c, st'.word d s)] = st.written ++ [(c, st.word d s)]
    rw [h.wr, h.word d hs]
  | .ite s u y n, r', st, st', hp, hF, h => by
    unfold pkR at hp
    obtain ⟨y', n', rfl, hy, hn⟩ := hp
    have hs : s ≠ F := fun e => hF (by unfold slotsR; rw [e]; exact List.mem_cons_self)
    have fy : F ∉ slotsRs y := fun e => hF (by unfold slotsR; exact List.mem_cons_of_mem _ (List.mem_append_left _ e))
    have fn : F ∉ slotsRs n := fun e => hF (by unfold slotsR; exact List.mem_cons_of_mem _ (List.mem_append_right _ e))
    simp only [runR, h.word d hs]
    split
    · exact sim_Rs kn d y y' st st' hy fy h
    · exact sim_Rs kn d n n' st st' hn fn h
theorem sim_Rs (kn : Str → Str) (d : Str) {F : Str} {E : List Str} : ∀ (rs ts : List Row) (st st' : RS), pkRs rs ts → F ∉ slotsRs rs → Sim F E st st' → (runRs kn d ts st').2 = (runRs kn d rs st).2 ∧ Sim F E (runRs kn d rs st).1 (runRs kn d ts st').1
  | [], ts, st, st', hp, _, h => by
    unfold pkRs at hp
    subst hp
    simp only [runRs]
    exact ⟨trivial, h⟩
  | r :: rs, ts, st, st', hp, hF, h => by
    unfold pkRs at hp
    obtain ⟨r', rs', rfl, h1, h2⟩ := hp
    have f1 : F ∉ slotsR r := fun e => hF (by unfold slotsRs; exact List.mem_append_left _ e)
    have f2 : F ∉ slotsRs rs := fun e => hF (by unfold slotsRs; exact List.mem_append_right _ e)
    obtain ⟨a, b⟩ := sim_R kn d r r' st st' h1 f1 h
    by_cases hr : (runR kn d r st).2 = true
    · rw [runRs_yes _ hr, runRs_yes _ (a.trans hr)]
      exact ⟨rfl, b⟩
    · rw [runRs_no _ hr, runRs_no _ (by rw [a]; exact hr)]
      exact sim_Rs kn d rs rs' _ _ h2 f2 b
end
/-! ### reads put ahead -/
def addC (E : List Str) (c : Str) : List Str := if c ∈ E then E else E ++ [c]
def earlyRs (F : Str) (cs : List Str) : List Row := cs.map fun c => .rd false c F
/-- the run of reads put ahead of everything -/
theorem early_run (kn : Str → Str) (d : Str) {F : Str} : ∀ (cs : List Str) (E : List Str) (st st' : RS), Sim F E st st' → heardS st = [] → st'.noted.map (·.1) = E → st'.peeked = [] →
    (runRs kn d (earlyRs F cs) st').2 = false ∧ Sim F (cs.foldl addC E) st (runRs kn d (earlyRs F cs) st').1
  | [], E, st, st', h, _, _, _ => ⟨rfl, h⟩
  | c :: cs, E, st, st', h, h0, hn, hp => by
    have e : earlyRs F (c :: cs) = .rd false c F :: earlyRs F cs := rfl
    have no : ¬ (runR kn d (.rd false c F) st').2 = true := fun z => by simp only [runR] at z; cases z
    rw [e, runRs_no _ no, List.foldl_cons]
    have hn2 : (runR kn d (.rd false c F) st').1.noted.map (·.1) = addC E c := by
      show (sdE st'.noted c (kn c)).map (·.1) = _
      unfold sdE addC
      by_cases hc : c ∈ E
      · rw [if_pos hc, if_pos, hn]
        rw [← getE_any]
        rw [← hn] at hc
        obtain ⟨p, hp, e⟩ := List.mem_map.mp hc
        exact List.any_eq_true.mpr ⟨p, hp, decide_eq_true e⟩
      · have ng : ¬ (getE st'.noted c).isSome = true := fun z => hc (by rw [← hn]; exact getE_key z)
        rw [if_neg hc, if_neg ng]
        unfold putE
        rw [getE_any, if_neg ng, List.map_append, hn]
        rfl
    refine early_run kn d cs (addC E c) st _ ⟨fun s hs => ?_, h.sa, h.wr, h.gi, fun x => ?_, ?_⟩ h0 hn2 hp
    · show getE (putE st'.slots F (kn c)) s = _
      rw [getE_put, if_neg hs, h.sl s hs]
    · rw [heard_rd, h.he, h0]
      unfold addC
      split
      · rename_i hc
        exact ⟨fun g => g.elim (fun g => .inl (by rw [g]; exact hc)) id, .inr⟩
      · rw [List.mem_append, List.mem_singleton]
        exact ⟨fun g => g.elim (fun g => .inl (.inr g)) fun g => g.elim (fun g => .inl (.inl g)) .inr, fun g => g.elim (fun g => g.elim (fun g => .inr (.inl g)) .inl) fun g => .inr (.inr g)⟩
    · rw [hn2]; exact List.prefix_refl _
theorem addC_mem : ∀ (cs E : List Str) (x : Str), x ∈ cs.foldl addC E ↔ x ∈ E ∨ x ∈ cs
  | [], E, x => by simp
  | c :: cs, E, x => by
    rw [List.foldl_cons, addC_mem cs]
    unfold addC
    split
    · rename_i h
      rw [List.mem_cons]
      exact ⟨fun g => g.elim .inl fun g => .inr (.inr g), fun g => g.elim .inl fun g => g.elim (fun g => .inl (by rw [g]; exact h)) .inr⟩
    · rw [List.mem_append, List.mem_singleton, List.mem_cons, or_assoc]
/-- the whole: reads ahead, then the rows with their peeks -/
theorem sim_all (kn : Str → Str) (d : Str) {F : Str} {rs ts : List Row} {cs : List Str} (hp : pkRs rs ts) (hF : F ∉ slotsRs rs) {st : RS} (h0 : st.noted = []) (h1 : st.peeked = []) :
    (runRs kn d (earlyRs F cs ++ ts) st).2 = (runRs kn d rs st).2 ∧ Sim F (cs.foldl addC []) (runRs kn d rs st).1 (runRs kn d (earlyRs F cs ++ ts) st).1 := by
  have hs : heardS st = [] := by unfold heardS; rw [h0, h1]; rfl
  obtain ⟨a, b⟩ := early_run kn d (F := F) cs [] st st ⟨fun _ _ => rfl, rfl, rfl, rfl, fun x => by simp, List.nil_prefix⟩ hs (by rw [h0]; rfl) h1
  rw [runRs_append, a, if_neg Bool.false_ne_true]
  exact sim_Rs kn d rs ts st _ hp hF b
end Td
/-! A datum in a list of data. -/
namespace Td
open PySem PySem.Spec PyProof.Rows L2
def hasD (d : PyData) (ds : List PyData) : Bool := ds.any fun z => PyData.eqv z d
def rInDL (K : PySem.W.Frag) (neg : Bool) : R2 := fun x y H Q => ∃ d ds, Dp K H x d ∧ Dp K H y (.list ds) ∧ SeqAt.shaped d = true ∧ SeqAt.shaped (.list ds) = true ∧ Q (.bl (if neg then !hasD d ds else hasD d ds)) H
section
variable {X : Cx}
theorem op_inDL (hu : X.A.units + 65 < cLine) : OpR X (compareOp .In) (rInDL X.K false) := by
  intro pins s σ H x y v u Q I rx ry ⟨d, ds, h1, h2, e1, e2, q⟩
  obtain ⟨la, a⟩ := Dp.reads I d x v h1 rx
  obtain ⟨lb, b⟩ := Dp.reads I (.list ds) y u h2 ry
  exact SeqAt.in_list_reads b a (SeqAt.canLay_of_shaped e2) (SeqAt.canLay_of_shaped e1) (room_in_shaped e1 hu) ⟨.bl _, H, I, rfl, q⟩
theorem op_ninDL (hu : X.A.units + 65 < cLine) : OpR X (compareOp .NotIn) (rInDL X.K true) := by
  intro pins s σ H x y v u Q I rx ry ⟨d, ds, h1, h2, e1, e2, q⟩
  obtain ⟨la, a⟩ := Dp.reads I d x v h1 rx
  obtain ⟨lb, b⟩ := Dp.reads I (.list ds) y u h2 ry
  exact SeqAt.notIn_list_reads b a (SeqAt.canLay_of_shaped e2) (SeqAt.canLay_of_shaped e1) (room_in_shaped e1 hu) ⟨.bl _, H, I, rfl, q⟩
theorem op_ninDT (hu : X.A.units + 65 < cLine) : OpR X (compareOp .NotIn) (rInDT X.K true) := by
  intro pins s σ H x y v u Q I rx ry ⟨d, ds, h1, h2, e1, e2, q⟩
  obtain ⟨la, a⟩ := Dp.reads I d x v h1 rx
  obtain ⟨lb, b⟩ := Dp.reads I (.tuple ds) y u h2 ry
  exact SeqAt.notIn_tuple_reads b a (SeqAt.canLay_of_shaped e2) (SeqAt.canLay_of_shaped e1) (room_in_shaped e1 hu) ⟨.bl _, H, I, rfl, q⟩
end
end Td
/-! enumerate of a list. -/
namespace Td
open PySem PySem.Spec PyProof.Rows L2
theorem for_enumL {K : PySem.W.Frag} {l : Addr} {zs : List V} {g : TG} {tb : TS} {D : Ends} {τ : L2.St} {G : Hp} (J : Nat → L2.St → Hp → Prop) (start : J 0 τ G) (there : ∀ i τ G, i ≤ zs.length → J i τ G → SqL K G l zs)
    (turn : ∀ (i : Nat) (z : V) (τ : L2.St) (G : Hp) (t : Addr), zs[i]? = some z → J i τ G → G t = none → g (.ref t) τ (upd G t (.tup [.int (i : Nat), z])) fun τ2 G2 => tb { D with nx := J (i + 1), ct := J (i + 1), bk := D.nx } τ2 G2)
    (over : ∀ τ G, J zs.length τ G → D.nx τ G) :
    ∃ W : Nat → Nat → L2.St → Hp → Prop, (∃ m, W 0 m τ G) ∧ ∀ i m τ G, W i m τ G →
      ((Ite K l).stop i G ∧ D.nx τ G) ∨ ((Ite K l).go i G ∧ ∃ N : L2.St → Hp → Prop, (∀ τ' G', N τ' G' → ∃ m', m' < m ∧ W (i + 1) m' τ' G') ∧
        ∀ x G', (Ite K l).yld i G x G' → g x τ G' fun τ2 G2 => tb { D with nx := N, ct := N, bk := D.nx } τ2 G2) := by
  refine ⟨fun i m τ G => m + i = zs.length ∧ J i τ G, ⟨zs.length, rfl, start⟩, fun i m τ G ⟨em, j⟩ => ?_⟩
  have here := there i τ G (by omega) j
  rcases Nat.lt_or_ge i zs.length with lt | ge
  · refine .inr ⟨⟨zs, zs[i], here, List.getElem?_eq_getElem lt⟩, J (i + 1), fun τ' G' j' => ⟨m - 1, by omega, by omega, j'⟩, ?_⟩
    rintro x G' ⟨t, z, rfl, ft, rfl, at_⟩
    exact turn i z τ G t (at_ zs here) j ft
  · have e : i = zs.length := by omega
    rw [e] at j
    exact .inl ⟨⟨zs, here, ge⟩, over τ G j⟩
end Td
/-! The head's look for a program with a method that opens with super().__init__(). -/
namespace Td
open PySem PySem.Spec PyProof.Rows L2
def frU (n : Nat) (g : Addr → Option Obj) : PySem.W.Frag := He.frT g (cStatics :: He.asD g n)
abbrev FnC : Type := Option (Str × Str × Arguments × FuncBody × Scope × Addr × List Str × Addr)
/-- a function's text, its closure by names alone -/
def fnC (K : PySem.W.Frag) (p : Str × Option Str) : FnC := match K.lookup (He.fAd K p) with
  | some ⟨_, _, .func fd, _⟩ => some (fd.name, fd.qualname, fd.params, fd.body, fd.scope, fd.globals, fd.closure.map (·.1), fd.builtins)
  | _ => none
structure SupD where
  cls : Str
  oth : Str
  qual : Str
  file : Str
  params : Arguments
  body : List Stmt
  scope : Scope
def SupD.at_ (d : SupD) : Str × Option Str := (d.cls, some "__init__")
def SupD.val (d : SupD) : FnC := some ("__init__", d.qual, d.params, .stmts d.body, d.scope, mainGlobals, ["__class__"], builtinsNs)
def cellB (K : PySem.W.Frag) (d : SupD) (l : List (Str × Addr)) : Bool := match l with
  | [q] => (match K.lookup q.2 with
    | some ⟨_, _, .cell (some (.ref D)), _⟩ => decide (D = He.ga K d.cls)
    | _ => false)
  | _ => false
def noneB (v : Value) : Bool := match v with
  | .none => true
  | _ => false
def strB (x : Str) (v : Option Value) : Bool := match v with
  | some (.str f _) => x == f
  | _ => false
def fileB (K : PySem.W.Frag) (d : SupD) (v : Value) : Bool := match v with
  | .ref cda => (match K.lookup cda with
    | some ⟨_, _, .fields vs, _⟩ => strB d.file (vs[2]?)
    | _ => false)
  | _ => false
theorem cellB_ok {K : PySem.W.Frag} {d : SupD} {l : List (Str × Addr)} (h : cellB K d l = true) : ∃ x cc c1 c2 c4, l = [(x, cc)] ∧ K.lookup cc = some ⟨c1, c2, .cell (some (.ref (He.ga K d.cls))), c4⟩ := by
  unfold cellB at h
  split at h
  · rename_i q
    split at h
    · rename_i c1 c2 D c4 e
      exact ⟨q.1, q.2, c1, c2, c4, rfl, by rw [e, of_decide_eq_true h]⟩
    · cases h
  · cases h
theorem noneB_ok {v : Value} (h : noneB v = true) : v = .none := by
  cases v with
  | none => rfl
  | _ => cases h
theorem strB_ok {x : Str} {v : Option Value} (h : strB x v = true) : ∃ f t, v = some (.str f t) ∧ (x == f) = true := by
  unfold strB at h
  split at h
  · rename_i f t
    exact ⟨f, t, rfl, h⟩
  · cases h
theorem fileB_ok {K : PySem.W.Frag} {d : SupD} {v : Value} (h : fileB K d v = true) : ∃ cda f1 f2 vs f4 f t, v = .ref cda ∧ K.lookup cda = some ⟨f1, f2, .fields vs, f4⟩ ∧ vs[2]? = some (.str f t) ∧ (d.file == f) = true := by
  unfold fileB at h
  split at h
  · rename_i cda
    split at h
    · rename_i f1 f2 vs f4 e
      obtain ⟨f, t, h1, h2⟩ := strB_ok h
      exact ⟨cda, f1, f2, vs, f4, f, t, rfl, e, h1, h2⟩
    · cases h
  · cases h
def supFn (K : PySem.W.Frag) (d : SupD) : Bool := match K.lookup (He.fAd K d.at_) with
  | some ⟨_, _, .func fd, _⟩ => cellB K d fd.closure && (noneB fd.defaults && (fileB K d fd.code && PySem.W.codeIn K fd.code d.qual))
  | _ => false
def supB (K : PySem.W.Frag) (d : SupD) : Bool := supFn K d && ((PySem.W.clsIn K (He.ga K d.cls)).isSome && (decide (PySem.W.mroIn K (He.ga K d.cls) (.ref (He.ga K d.cls)) = some true) && (He.eqO (PySem.W.ks_superIn K (He.ga K d.cls) (He.ga K d.cls) "__init__") (some (some (.ref (He.fAd K (d.oth, some "__init__"))))) &&
  (decide (PySem.W.typeIn K (.ref (He.fAd K (d.oth, some "__init__"))) = some (.type "function")) && (PySem.W.fnIn K (He.fAd K (d.oth, some "__init__")) && (He.eqO (PySem.W.nsIn K cStatics "thirdparty.any") (some none) && (He.eqO (PySem.W.nsIn K mainGlobals "super") (some none) && PySem.W.keepIn K (.ref (He.fAd K d.at_)))))))))
theorem sup_of {P : Program} {K : PySem.W.Frag} {d : SupD} {st : Stmt} (hp : d.params = defArgs st) (hb : d.body = defBody st) (hs : d.scope = defScope st) (hf : P.main.file = d.file) (e : fnC K d.at_ = d.val) (c : supB K d = true) :
    ∃ fd, Sup P K d.qual st (He.fAd K d.at_) (He.ga K d.cls) (He.fAd K (d.oth, some "__init__")) fd := by
  obtain ⟨c1, c⟩ := He.ba c
  obtain ⟨c2, c⟩ := He.ba c
  obtain ⟨c3, c⟩ := He.ba c
  obtain ⟨c4, c⟩ := He.ba c
  obtain ⟨c5, c⟩ := He.ba c
  obtain ⟨c6, c⟩ := He.ba c
  obtain ⟨c7, c⟩ := He.ba c
  obtain ⟨c8, c9⟩ := He.ba c
  unfold supFn at c1
  unfold fnC at e
  cases q : K.lookup (He.fAd K d.at_) with
  | none => rw [q] at e; cases e
  | some o =>
    obtain ⟨oc, od, dt, osl⟩ := o
    rw [q] at e c1
    cases dt with
    | func fd =>
      obtain ⟨n1, n2, n3, n4, n5, n6, n7, n8, n9, n10, n11, n12, n13, n14, n15⟩ := fd
      have e2 : (some (n1, n2, n3, n4, n5, n6, n7.map (·.1), n15) : FnC) = d.val := e
      unfold SupD.val at e2
      simp only [Option.some.injEq, Prod.mk.injEq] at e2
      obtain ⟨h1, h2, h3, h4, h5, h6, h7, h8⟩ := e2
      obtain ⟨d1, d2⟩ := He.ba c1
      obtain ⟨d3, d4⟩ := He.ba d2
      obtain ⟨d5, d6⟩ := He.ba d4
      obtain ⟨x1, cc, k1, k2, k4, hl, hcc⟩ := cellB_ok d1
      obtain ⟨cda, f1, f2, vs, f4, f, tf, hcode, hcda, hv, hfile⟩ := fileB_ok d5
      have hd := noneB_ok d3
      dsimp only at hl hcode hd d6
      subst hl
      have hx : x1 = "__class__" := by simpa using h7
      subst hx h1 h2 h3 h4 h5 h6 h8 hcode hd
      obtain ⟨cd, hcd⟩ := Option.isSome_iff_exists.mp c2
      refine ⟨_, ⟨oc, od, osl, n9, n10, n11, n12, n14, cc, cda, f1, f2, vs, f4, f, tf, k1, k2, k4, rfl, ?_, d6, hcda, hv, by rw [hf]; exact hfile, hcc⟩, ⟨cd, hcd⟩, of_decide_eq_true c3, He.eqO_ok c4, of_decide_eq_true c5, c6, He.eqO_ok c7, He.eqO_ok c8, c9⟩
      rw [← hp, ← hb, ← hs]
      exact q
    | _ => cases e
/-! ### the Hook -/
abbrev AlU : Type := He.AlT × (Bool × List FnC)
def obsU (n : Nat) (fa : List He.Fa) (fn : List He.DefD) (ts : List He.Tab) (us : List SupD) (ex : PySem.W.Frag → Bool) (g : Addr → Option Obj) : AlU := (He.obsT fa fn ts (frU n g), (ex (frU n g) && us.all (supB (frU n g)), us.map fun d => fnC (frU n g) d.at_))
def valU (fn : List He.DefD) (ts : List He.Tab) (us : List SupD) (w : World) : AlU := (He.valT fn ts w, (true, us.map SupD.val))
structure SaysU (fa : List He.Fa) (fn : List He.DefD) (ts : List He.Tab) (us : List SupD) (ex : PySem.W.Frag → Bool) (w : World) (K : PySem.W.Frag) : Prop where
  t : He.SaysT fa fn ts w K
  more : ex K = true
  us : ∀ d ∈ us, supB K d = true ∧ fnC K d.at_ = d.val
theorem saysU_of {n : Nat} {fa : List He.Fa} {fn : List He.DefD} {ts : List He.Tab} {us : List SupD} {ex : PySem.W.Frag → Bool} {w : World} {g : Addr → Option Obj} (e : obsU n fa fn ts us ex g = valU fn ts us w) : SaysU fa fn ts us ex w (frU n g) := by
  have e1 : He.obsT fa fn ts (frU n g) = He.valT fn ts w := congrArg (fun z : AlU => z.1) e
  have e2 : (ex (frU n g) && us.all (supB (frU n g))) = true := congrArg (fun z : AlU => z.2.1) e
  have e3 : (us.map fun d => fnC (frU n g) d.at_) = us.map SupD.val := congrArg (fun z : AlU => z.2.2) e
  obtain ⟨a, b⟩ := He.ba e2
  refine ⟨e1, a, fun d hd => ⟨List.all_eq_true.mp b d hd, ?_⟩⟩
  exact List.map_inj_left.mp e3 d hd
def hookU (n : Nat) (fa : List He.Fa) (fn : List He.DefD) (ts : List He.Tab) (us : List SupD) (ex : PySem.W.Frag → Bool) : PySem.W.Hook where
  α := AlU
  obs := fun s => obsU n fa fn ts us ex s.heap.get?
  val := fun w => valU fn ts us w
  says := fun w h => ∃ K : PySem.W.Frag, K.In h ∧ SaysU fa fn ts us ex w K
  of := fun _ _ e => ⟨_, He.frT_in, saysU_of e⟩
  keeps := fun _ _ _ ⟨K, hK, c⟩ k => ⟨K, PySem.W.Frag.In.keeps hK k, c⟩
theorem obsU_eq {n : Nat} {fa : List He.Fa} {fn : List He.DefD} {ts : List He.Tab} {us : List SupD} {ex : PySem.W.Frag → Bool} {g : Addr → Option Obj} {s : Shared} (h : ∀ a, g a = s.heap.get? a) : obsU n fa fn ts us ex g = (hookU n fa fn ts us ex).obs s := by
  have e : g = s.heap.get? := funext h
  rw [e] <;> rfl
end Td
/-! The head's look over a list of places that is written out. -/
namespace Td
open PySem PySem.Spec PyProof.Rows L2
def obsV (as : List Addr) (fa : List He.Fa) (fn : List He.DefD) (ts : List He.Tab) (us : List SupD) (ex : PySem.W.Frag → Bool) (g : Addr → Option Obj) : AlU := (He.obsT fa fn ts (He.frT g as), (ex (He.frT g as) && us.all (supB (He.frT g as)), us.map fun d => fnC (He.frT g as) d.at_))
theorem saysV_of {as : List Addr} {fa : List He.Fa} {fn : List He.DefD} {ts : List He.Tab} {us : List SupD} {ex : PySem.W.Frag → Bool} {w : World} {g : Addr → Option Obj} (e : obsV as fa fn ts us ex g = valU fn ts us w) : SaysU fa fn ts us ex w (He.frT g as) := by
  have e1 : He.obsT fa fn ts (He.frT g as) = He.valT fn ts w := congrArg (fun z : AlU => z.1) e
  have e2 : (ex (He.frT g as) && us.all (supB (He.frT g as))) = true := congrArg (fun z : AlU => z.2.1) e
  have e3 : (us.map fun d => fnC (He.frT g as) d.at_) = us.map SupD.val := congrArg (fun z : AlU => z.2.2) e
  obtain ⟨a, b⟩ := He.ba e2
  exact ⟨e1, a, fun d hd => ⟨List.all_eq_true.mp b d hd, List.map_inj_left.mp e3 d hd⟩⟩
def hookV (as : List Addr) (fa : List He.Fa) (fn : List He.DefD) (ts : List He.Tab) (us : List SupD) (ex : PySem.W.Frag → Bool) : PySem.W.Hook where
  α := AlU
  obs := fun s => obsV as fa fn ts us ex s.heap.get?
  val := fun w => valU fn ts us w
  says := fun w h => ∃ K : PySem.W.Frag, K.In h ∧ SaysU fa fn ts us ex w K
  of := fun _ _ e => ⟨_, He.frT_in, saysV_of e⟩
  keeps := fun _ _ _ ⟨K, hK, c⟩ k => ⟨K, PySem.W.Frag.In.keeps hK k, c⟩
theorem obsV_eq {as : List Addr} {fa : List He.Fa} {fn : List He.DefD} {ts : List He.Tab} {us : List SupD} {ex : PySem.W.Frag → Bool} {g : Addr → Option Obj} {s : Shared} (h : ∀ a, g a = s.heap.get? a) : obsV as fa fn ts us ex g = (hookV as fa fn ts us ex).obs s := by
  have e : g = s.heap.get? := funext h
  rw [e] <;> rfl
end Td
namespace K80
open PySem PySem.Spec PyProof.Rows L2 Td
def top (i : Nat) : Stmt := PySem.Challenge.pw_toldonward_k80_whole_changes_keep_the_tr.main.body.getD i (.Pass ⟨0, 0, 0, 0⟩)
abbrev s_is_integer : Stmt := top 3
abbrev N_is_integer : List Str := ["value"]
theorem sc_is_integer : FnScope N_is_integer ["value"] (defScope s_is_integer) := ⟨rfl, rfl, rfl, by decide +kernel, rfl, by decide +kernel, by decide +kernel⟩
abbrev s_is_name : Stmt := top 4
abbrev N_is_name : List Str := ["value", "letter"]
theorem sc_is_name : FnScope N_is_name ["value"] (defScope s_is_name) := ⟨rfl, rfl, rfl, by decide +kernel, rfl, by decide +kernel, by decide +kernel⟩
abbrev s_are_names : Stmt := top 5
abbrev N_are_names : List Str := ["value", "least", "most", "item"]
theorem sc_are_names : FnScope N_are_names ["value", "least", "most"] (defScope s_are_names) := ⟨rfl, rfl, rfl, by decide +kernel, rfl, by decide +kernel, by decide +kernel⟩
abbrev s_are_named_pairs : Stmt := top 6
abbrev N_are_named_pairs : List Str := ["value", "most", "taken", "before", "pair"]
theorem sc_are_named_pairs : FnScope N_are_named_pairs ["value", "most", "taken"] (defScope s_are_named_pairs) := ⟨rfl, rfl, rfl, by decide +kernel, rfl, by decide +kernel, by decide +kernel⟩
abbrev s_InvalidProgram_init : Stmt := inClass (top 9) 0
abbrev N_InvalidProgram_init : List Str := ["self", "part", "path"]
theorem sc_InvalidProgram_init : FnScope N_InvalidProgram_init ["self", "part", "path"] (defScope s_InvalidProgram_init) := ⟨rfl, rfl, rfl, by decide +kernel, rfl, by decide +kernel, by decide +kernel⟩
abbrev s_InvalidStart_init : Stmt := inClass (top 10) 0
abbrev N_InvalidStart_init : List Str := ["self", "words"]
theorem sc_InvalidStart_init : FnScope N_InvalidStart_init ["self", "words"] (defScope s_InvalidStart_init) := ⟨rfl, rfl, rfl, by decide +kernel, rfl, by decide +kernel, by decide +kernel⟩
abbrev s_InvalidPath_init : Stmt := inClass (top 11) 0
abbrev N_InvalidPath_init : List Str := ["self", "path"]
theorem sc_InvalidPath_init : FnScope N_InvalidPath_init ["self", "path"] (defScope s_InvalidPath_init) := ⟨rfl, rfl, rfl, by decide +kernel, rfl, by decide +kernel, by decide +kernel⟩
abbrev s_UnknownCell_init : Stmt := inClass (top 12) 0
abbrev N_UnknownCell_init : List Str := ["self", "name"]
theorem sc_UnknownCell_init : FnScope N_UnknownCell_init ["self", "name"] (defScope s_UnknownCell_init) := ⟨rfl, rfl, rfl, by decide +kernel, rfl, by decide +kernel, by decide +kernel⟩
abbrev s_InvalidChange_init : Stmt := inClass (top 13) 0
abbrev N_InvalidChange_init : List Str := ["self", "index"]
theorem sc_InvalidChange_init : FnScope N_InvalidChange_init ["self", "index"] (defScope s_InvalidChange_init) := ⟨rfl, rfl, rfl, by decide +kernel, rfl, by decide +kernel, by decide +kernel⟩
abbrev s_Record_init : Stmt := inClass (top 15) 0
abbrev N_Record_init : List Str := ["self"]
theorem sc_Record_init : FnScope N_Record_init ["self"] (defScope s_Record_init) := ⟨rfl, rfl, rfl, by decide +kernel, rfl, by decide +kernel, by decide +kernel⟩
abbrev s_Record_parts : Stmt := inClass (top 15) 1
abbrev N_Record_parts : List Str := ["self"]
theorem sc_Record_parts : FnScope N_Record_parts ["self"] (defScope s_Record_parts) := ⟨rfl, rfl, rfl, by decide +kernel, rfl, by decide +kernel, by decide +kernel⟩
abbrev s_TrueRun_init : Stmt := inClass (top 17) 0
abbrev N_TrueRun_init : List Str := ["self", "default", "known", "__class__"]
theorem sc_TrueRun_init : NdefX.NScope N_TrueRun_init ["self", "default", "known"] ["__class__"] (defScope s_TrueRun_init) := NdefX.nscope_by (by decide +kernel)
abbrev s_TrueRun_word_in : Stmt := inClass (top 17) 1
abbrev N_TrueRun_word_in : List Str := ["self", "slot"]
theorem sc_TrueRun_word_in : FnScope N_TrueRun_word_in ["self", "slot"] (defScope s_TrueRun_word_in) := ⟨rfl, rfl, rfl, by decide +kernel, rfl, by decide +kernel, by decide +kernel⟩
abbrev s_do_read : Stmt := top 18
abbrev N_do_read : List Str := ["run", "row", "word"]
theorem sc_do_read : FnScope N_do_read ["run", "row"] (defScope s_do_read) := ⟨rfl, rfl, rfl, by decide +kernel, rfl, by decide +kernel, by decide +kernel⟩
abbrev s_do_peek : Stmt := top 19
abbrev N_do_peek : List Str := ["run", "row", "word"]
theorem sc_do_peek : FnScope N_do_peek ["run", "row"] (defScope s_do_peek) := ⟨rfl, rfl, rfl, by decide +kernel, rfl, by decide +kernel, by decide +kernel⟩
abbrev s_do_put : Stmt := top 20
abbrev N_do_put : List Str := ["run", "row"]
theorem sc_do_put : FnScope N_do_put ["run", "row"] (defScope s_do_put) := ⟨rfl, rfl, rfl, by decide +kernel, rfl, by decide +kernel, by decide +kernel⟩
abbrev s_do_write : Stmt := top 21
abbrev N_do_write : List Str := ["run", "row"]
theorem sc_do_write : FnScope N_do_write ["run", "row"] (defScope s_do_write) := ⟨rfl, rfl, rfl, by decide +kernel, rfl, by decide +kernel, by decide +kernel⟩
abbrev s_do_say : Stmt := top 22
abbrev N_do_say : List Str := ["run", "row"]
theorem sc_do_say : FnScope N_do_say ["run", "row"] (defScope s_do_say) := ⟨rfl, rfl, rfl, by decide +kernel, rfl, by decide +kernel, by decide +kernel⟩
abbrev s_do_rows : Stmt := top 24
abbrev N_do_rows : List Str := ["run", "rows", "row", "chosen", "action"]
theorem sc_do_rows : FnScope N_do_rows ["run", "rows"] (defScope s_do_rows) := ⟨rfl, rfl, rfl, by decide +kernel, rfl, by decide +kernel, by decide +kernel⟩
abbrev s_run_truly : Stmt := top 25
abbrev N_run_truly : List Str := ["program", "known", "rows", "run"]
theorem sc_run_truly : FnScope N_run_truly ["program", "known", "rows"] (defScope s_run_truly) := ⟨rfl, rfl, rfl, by decide +kernel, rfl, by decide +kernel, by decide +kernel⟩
abbrev s_is_start : Stmt := top 26
abbrev N_is_start : List Str := ["program", "words", "word"]
theorem sc_is_start : FnScope N_is_start ["program", "words"] (defScope s_is_start) := ⟨rfl, rfl, rfl, by decide +kernel, rfl, by decide +kernel, by decide +kernel⟩
abbrev s_check_start : Stmt := top 27
abbrev N_check_start : List Str := ["program", "words"]
theorem sc_check_start : FnScope N_check_start ["program", "words"] (defScope s_check_start) := ⟨rfl, rfl, rfl, by decide +kernel, rfl, by decide +kernel, by decide +kernel⟩
abbrev s_known_words : Stmt := top 28
abbrev N_known_words : List Str := ["program", "words", "known", "name", "rows"]
theorem sc_known_words : FnScope N_known_words ["program", "words"] (defScope s_known_words) := ⟨rfl, rfl, rfl, by decide +kernel, rfl, by decide +kernel, by decide +kernel⟩
abbrev s_true_words : Stmt := top 29
abbrev N_true_words : List Str := ["program", "words", "known", "cell"]
theorem sc_true_words : FnScope N_true_words ["program", "words"] (defScope s_true_words) := ⟨rfl, rfl, rfl, by decide +kernel, rfl, by decide +kernel, by decide +kernel⟩
abbrev s_true_run : Stmt := top 30
abbrev N_true_run : List Str := ["program", "words", "name", "rows", "run"]
theorem sc_true_run : FnScope N_true_run ["program", "words", "name"] (defScope s_true_run) := ⟨rfl, rfl, rfl, by decide +kernel, rfl, by decide +kernel, by decide +kernel⟩
abbrev s_Scope_init : Stmt := inClass (top 35) 0
abbrev N_Scope_init : List Str := ["self", "kind", "words", "sources", "readable"]
theorem sc_Scope_init : FnScope N_Scope_init ["self", "kind", "words", "sources", "readable"] (defScope s_Scope_init) := ⟨rfl, rfl, rfl, by decide +kernel, rfl, by decide +kernel, by decide +kernel⟩
abbrev s_is_read_row : Stmt := top 36
abbrev N_is_read_row : List Str := ["row", "scope"]
theorem sc_is_read_row : FnScope N_is_read_row ["row", "scope"] (defScope s_is_read_row) := ⟨rfl, rfl, rfl, by decide +kernel, rfl, by decide +kernel, by decide +kernel⟩
abbrev s_is_put_row : Stmt := top 37
abbrev N_is_put_row : List Str := ["row", "scope"]
theorem sc_is_put_row : FnScope N_is_put_row ["row", "scope"] (defScope s_is_put_row) := ⟨rfl, rfl, rfl, by decide +kernel, rfl, by decide +kernel, by decide +kernel⟩
abbrev s_is_if_row : Stmt := top 38
abbrev N_is_if_row : List Str := ["row", "scope"]
theorem sc_is_if_row : FnScope N_is_if_row ["row", "scope"] (defScope s_is_if_row) := ⟨rfl, rfl, rfl, by decide +kernel, rfl, by decide +kernel, by decide +kernel⟩
abbrev s_is_slot_row : Stmt := top 39
abbrev N_is_slot_row : List Str := ["row", "scope"]
theorem sc_is_slot_row : FnScope N_is_slot_row ["row", "scope"] (defScope s_is_slot_row) := ⟨rfl, rfl, rfl, by decide +kernel, rfl, by decide +kernel, by decide +kernel⟩
abbrev s_is_write_row : Stmt := top 40
abbrev N_is_write_row : List Str := ["row", "scope"]
theorem sc_is_write_row : FnScope N_is_write_row ["row", "scope"] (defScope s_is_write_row) := ⟨rfl, rfl, rfl, by decide +kernel, rfl, by decide +kernel, by decide +kernel⟩
abbrev s_check_of : Stmt := top 43
abbrev N_check_of : List Str := ["kind", "form"]
theorem sc_check_of : FnScope N_check_of ["kind", "form"] (defScope s_check_of) := ⟨rfl, rfl, rfl, by decide +kernel, rfl, by decide +kernel, by decide +kernel⟩
abbrev s_is_valid_row : Stmt := top 44
abbrev N_is_valid_row : List Str := ["row", "scope", "depth", "fits"]
theorem sc_is_valid_row : FnScope N_is_valid_row ["row", "scope", "depth"] (defScope s_is_valid_row) := ⟨rfl, rfl, rfl, by decide +kernel, rfl, by decide +kernel, by decide +kernel⟩
abbrev s_first_wrong_path : Stmt := top 45
abbrev N_first_wrong_path : List Str := ["rows", "scope", "base", "depth", "place", "row", "path", "branch", "wrong"]
theorem sc_first_wrong_path : FnScope N_first_wrong_path ["rows", "scope", "base", "depth"] (defScope s_first_wrong_path) := ⟨rfl, rfl, rfl, by decide +kernel, rfl, by decide +kernel, by decide +kernel⟩
abbrev s_paths_of_rows : Stmt := top 46
abbrev N_paths_of_rows : List Str := ["rows", "base", "paths", "place", "row", "path", "branch"]
theorem sc_paths_of_rows : FnScope N_paths_of_rows ["rows", "base"] (defScope s_paths_of_rows) := ⟨rfl, rfl, rfl, by decide +kernel, rfl, by decide +kernel, by decide +kernel⟩
abbrev s_row_behind : Stmt := top 47
abbrev N_row_behind : List Str := ["rows", "steps", "row"]
theorem sc_row_behind : FnScope N_row_behind ["rows", "steps"] (defScope s_row_behind) := ⟨rfl, rfl, rfl, by decide +kernel, rfl, by decide +kernel, by decide +kernel⟩
abbrev s_rows_with : Stmt := top 48
abbrev N_rows_with : List Str := ["rows", "steps", "row", "place", "changed", "holder", "at", "inner"]
theorem sc_rows_with : FnScope N_rows_with ["rows", "steps", "row"] (defScope s_rows_with) := ⟨rfl, rfl, rfl, by decide +kernel, rfl, by decide +kernel, by decide +kernel⟩
abbrev s_slots_in : Stmt := top 49
abbrev N_slots_in : List Str := ["rows", "slots", "row"]
theorem sc_slots_in : FnScope N_slots_in ["rows"] (defScope s_slots_in) := ⟨rfl, rfl, rfl, by decide +kernel, rfl, by decide +kernel, by decide +kernel⟩
abbrev s_Program_init : Stmt := inClass (top 57) 0
abbrev N_Program_init : List Str := ["self", "words", "sources", "derived", "effects"]
theorem sc_Program_init : FnScope N_Program_init ["self", "words", "sources", "derived", "effects"] (defScope s_Program_init) := ⟨rfl, rfl, rfl, by decide +kernel, rfl, by decide +kernel, by decide +kernel⟩
abbrev s_Program_eq : Stmt := inClass (top 57) 1
abbrev N_Program_eq : List Str := ["self", "other"]
theorem sc_Program_eq : FnScope N_Program_eq ["self", "other"] (defScope s_Program_eq) := ⟨rfl, rfl, rfl, by decide +kernel, rfl, by decide +kernel, by decide +kernel⟩
abbrev s_Program_cells : Stmt := inClass (top 57) 2
abbrev N_Program_cells : List Str := ["self"]
theorem sc_Program_cells : FnScope N_Program_cells ["self"] (defScope s_Program_cells) := ⟨rfl, rfl, rfl, by decide +kernel, rfl, by decide +kernel, by decide +kernel⟩
abbrev s_Program_derived_names : Stmt := inClass (top 57) 3
abbrev N_Program_derived_names : List Str := ["self"]
theorem sc_Program_derived_names : FnScope N_Program_derived_names ["self"] (defScope s_Program_derived_names) := ⟨rfl, rfl, rfl, by decide +kernel, rfl, by decide +kernel, by decide +kernel⟩
abbrev s_Program_effect_names : Stmt := inClass (top 57) 4
abbrev N_Program_effect_names : List Str := ["self"]
theorem sc_Program_effect_names : FnScope N_Program_effect_names ["self"] (defScope s_Program_effect_names) := ⟨rfl, rfl, rfl, by decide +kernel, rfl, by decide +kernel, by decide +kernel⟩
abbrev s_Program_body : Stmt := inClass (top 57) 5
abbrev N_Program_body : List Str := ["self", "name", "own_name", "rows"]
theorem sc_Program_body : FnScope N_Program_body ["self", "name"] (defScope s_Program_body) := ⟨rfl, rfl, rfl, by decide +kernel, rfl, by decide +kernel, by decide +kernel⟩
abbrev s_Program_row_paths : Stmt := inClass (top 57) 6
abbrev N_Program_row_paths : List Str := ["self"]
theorem sc_Program_row_paths : FnScope N_Program_row_paths ["self"] (defScope s_Program_row_paths) := ⟨rfl, rfl, rfl, by decide +kernel, rfl, by decide +kernel, by decide +kernel⟩
abbrev s_Program_row_at : Stmt := inClass (top 57) 7
abbrev N_Program_row_at : List Str := ["self", "path", "row", "pairs"]
theorem sc_Program_row_at : FnScope N_Program_row_at ["self", "path"] (defScope s_Program_row_at) := ⟨rfl, rfl, rfl, by decide +kernel, rfl, by decide +kernel, by decide +kernel⟩
abbrev s_Program_with_row : Stmt := inClass (top 57) 8
abbrev N_Program_with_row : List Str := ["self", "path", "row"]
theorem sc_Program_with_row : FnScope N_Program_with_row ["self", "path", "row"] (defScope s_Program_with_row) := ⟨rfl, rfl, rfl, by decide +kernel, rfl, by decide +kernel, by decide +kernel⟩
abbrev s_names_of : Stmt := top 58
abbrev N_names_of : List Str := ["pairs", "name", "_"]
theorem sc_names_of : FnScope N_names_of ["pairs"] (defScope s_names_of) := ⟨rfl, rfl, rfl, by decide +kernel, rfl, by decide +kernel, by decide +kernel⟩
abbrev s_is_path_form : Stmt := top 59
abbrev N_is_path_form : List Str := ["value", "step"]
theorem sc_is_path_form : FnScope N_is_path_form ["value"] (defScope s_is_path_form) := ⟨rfl, rfl, rfl, by decide +kernel, rfl, by decide +kernel, by decide +kernel⟩
abbrev s_check_parts : Stmt := top 60
abbrev N_check_parts : List Str := ["words", "sources", "derived", "effects"]
theorem sc_check_parts : FnScope N_check_parts ["words", "sources", "derived", "effects"] (defScope s_check_parts) := ⟨rfl, rfl, rfl, by decide +kernel, rfl, by decide +kernel, by decide +kernel⟩
abbrev s_check_bodies : Stmt := top 61
abbrev N_check_bodies : List Str := ["words", "sources", "derived", "effects", "readable", "index", "name", "rows", "_"]
theorem sc_check_bodies : FnScope N_check_bodies ["words", "sources", "derived", "effects"] (defScope s_check_bodies) := ⟨rfl, rfl, rfl, by decide +kernel, rfl, by decide +kernel, by decide +kernel⟩
abbrev s_check_body : Stmt := top 62
abbrev N_check_body : List Str := ["rows", "scope", "index", "base", "wrong"]
theorem sc_check_body : FnScope N_check_body ["rows", "scope", "index"] (defScope s_check_body) := ⟨rfl, rfl, rfl, by decide +kernel, rfl, by decide +kernel, by decide +kernel⟩
abbrev s_is_change : Stmt := top 65
abbrev N_is_change : List Str := ["program", "value", "word", "path", "row"]
theorem sc_is_change : FnScope N_is_change ["program", "value"] (defScope s_is_change) := ⟨rfl, rfl, rfl, by decide +kernel, rfl, by decide +kernel, by decide +kernel⟩
abbrev s_check_changes : Stmt := top 66
abbrev N_check_changes : List Str := ["program", "changes", "most", "index", "change"]
theorem sc_check_changes : FnScope N_check_changes ["program", "changes", "most"] (defScope s_check_changes) := ⟨rfl, rfl, rfl, by decide +kernel, rfl, by decide +kernel, by decide +kernel⟩
abbrev s_with_changes : Stmt := top 67
abbrev N_with_changes : List Str := ["program", "changes"]
theorem sc_with_changes : FnScope N_with_changes ["program", "changes"] (defScope s_with_changes) := ⟨rfl, rfl, rfl, by decide +kernel, rfl, by decide +kernel, by decide +kernel⟩
abbrev s_changed : Stmt := top 68
abbrev N_changed : List Str := ["program", "changes", "derived", "effects"]
theorem sc_changed : FnScope N_changed ["program", "changes"] (defScope s_changed) := ⟨rfl, rfl, rfl, by decide +kernel, rfl, by decide +kernel, by decide +kernel⟩
abbrev s_changed_bodies : Stmt := top 69
abbrev N_changed_bodies : List Str := ["kind", "pairs", "changes", "bodies", "index", "name", "rows", "own", "word", "path"]
theorem sc_changed_bodies : FnScope N_changed_bodies ["kind", "pairs", "changes"] (defScope s_changed_bodies) := ⟨rfl, rfl, rfl, by decide +kernel, rfl, by decide +kernel, by decide +kernel⟩
abbrev s_changed_rows : Stmt := top 70
abbrev N_changed_rows : List Str := ["rows", "changes", "slots", "free", "early", "behind", "word", "steps", "_", "cell", "slot", "letter"]
theorem sc_changed_rows : FnScope N_changed_rows ["rows", "changes"] (defScope s_changed_rows) := ⟨rfl, rfl, rfl, by decide +kernel, rfl, by decide +kernel, by decide +kernel⟩
abbrev s_law_state : Stmt := top 72
abbrev N_law_state : List Str := ["_law_script"]
theorem sc_law_state : FnScope N_law_state ["_law_script"] (defScope s_law_state) := ⟨rfl, rfl, rfl, by decide +kernel, rfl, by decide +kernel, by decide +kernel⟩
abbrev s_law_draw : Stmt := top 73
abbrev N_law_draw : List Str := ["_law_state_here", "_law_many_here", "_law_cell", "_law_digit", "_law_one", "_law_two", "_law_three"]
theorem sc_law_draw : FnScope N_law_draw ["_law_state_here", "_law_many_here"] (defScope s_law_draw) := ⟨rfl, rfl, rfl, by decide +kernel, rfl, by decide +kernel, by decide +kernel⟩
abbrev s_law_names : Stmt := top 74
abbrev N_law_names : List Str := ["_law_state_here", "_law_many_here", "_law_place", "_law_first", "_law_same_size", "_law_base", "_law_letters", "_law_names_here", "_law_k", "_law_other", "_law_size", "_law_name", "_law_at"]
theorem sc_law_names : FnScope N_law_names ["_law_state_here", "_law_many_here"] (defScope s_law_names) := ⟨rfl, rfl, rfl, by decide +kernel, rfl, by decide +kernel, by decide +kernel⟩
abbrev s_law_many : Stmt := top 75
abbrev N_law_many : List Str := ["_law_rows_here", "_law_total", "_law_row_here"]
theorem sc_law_many : FnScope N_law_many ["_law_rows_here"] (defScope s_law_many) := ⟨rfl, rfl, rfl, by decide +kernel, rfl, by decide +kernel, by decide +kernel⟩
abbrev s_law_row : Stmt := top 76
abbrev N_law_row : List Str := ["_law_state_here", "_law_shape", "_law_kind", "_law_slot", "_law_cell"]
theorem sc_law_row : FnScope N_law_row ["_law_state_here", "_law_shape"] (defScope s_law_row) := ⟨rfl, rfl, rfl, by decide +kernel, rfl, by decide +kernel, by decide +kernel⟩
abbrev s_law_rows : Stmt := top 77
abbrev N_law_rows : List Str := ["_law_state_here", "_law_shape", "_law_depth", "_law_room", "_law_rows_here", "_law_left", "_law_turn", "_law_slot", "_law_cell", "_law_word", "_law_yes", "_law_no"]
theorem sc_law_rows : FnScope N_law_rows ["_law_state_here", "_law_shape", "_law_depth", "_law_room"] (defScope s_law_rows) := ⟨rfl, rfl, rfl, by decide +kernel, rfl, by decide +kernel, by decide +kernel⟩
abbrev s_law_parts : Stmt := top 78
abbrev N_law_parts : List Str := ["_law_state_here", "_law_sizes", "_law_peeks", "_law_writes", "_law_many_words", "_law_many_sources", "_law_many_derived", "_law_many_effects", "_law_words", "_law_names_here", "_law_slots", "_law_sources", "_law_shape", "_law_derived", "_law_k", "_law_name", "_law_rows_here", "_law_effects"]
theorem sc_law_parts : FnScope N_law_parts ["_law_state_here", "_law_sizes", "_law_peeks", "_law_writes"] (defScope s_law_parts) := ⟨rfl, rfl, rfl, by decide +kernel, rfl, by decide +kernel, by decide +kernel⟩
abbrev s_law_program : Stmt := top 79
abbrev N_law_program : List Str := ["_law_parts_here"]
theorem sc_law_program : FnScope N_law_program ["_law_parts_here"] (defScope s_law_program) := ⟨rfl, rfl, rfl, by decide +kernel, rfl, by decide +kernel, by decide +kernel⟩
abbrev s_law_chosen : Stmt := top 80
abbrev N_law_chosen : List Str := ["_law_state_here", "_law_rows_here", "_law_many_here", "_law_rest", "_law_told", "_law_turn"]
theorem sc_law_chosen : FnScope N_law_chosen ["_law_state_here", "_law_rows_here", "_law_many_here"] (defScope s_law_chosen) := ⟨rfl, rfl, rfl, by decide +kernel, rfl, by decide +kernel, by decide +kernel⟩
abbrev s_law_paths : Stmt := top 81
abbrev N_law_paths : List Str := ["_law_rows_here", "_law_path", "_law_found", "_law_k"]
theorem sc_law_paths : FnScope N_law_paths ["_law_rows_here", "_law_path"] (defScope s_law_paths) := ⟨rfl, rfl, rfl, by decide +kernel, rfl, by decide +kernel, by decide +kernel⟩
abbrev s_law_all_paths : Stmt := top 82
abbrev N_law_all_paths : List Str := ["_law_parts_here", "_law_found", "_law_k"]
theorem sc_law_all_paths : FnScope N_law_all_paths ["_law_parts_here"] (defScope s_law_all_paths) := ⟨rfl, rfl, rfl, by decide +kernel, rfl, by decide +kernel, by decide +kernel⟩
abbrev s_law_changes : Stmt := top 83
abbrev N_law_changes : List Str := ["_law_parts_here", "_law_found", "_law_pair"]
theorem sc_law_changes : FnScope N_law_changes ["_law_parts_here"] (defScope s_law_changes) := ⟨rfl, rfl, rfl, by decide +kernel, rfl, by decide +kernel, by decide +kernel⟩
abbrev s_law_starts : Stmt := top 84
abbrev N_law_starts : List Str := ["_law_parts_here", "_law_rows_here", "_law_source", "_law_longer", "_law_row_here", "_law_word"]
theorem sc_law_starts : FnScope N_law_starts ["_law_parts_here"] (defScope s_law_starts) := ⟨rfl, rfl, rfl, by decide +kernel, rfl, by decide +kernel, by decide +kernel⟩
abbrev s_law_early_cells : Stmt := top 85
abbrev N_law_early_cells : List Str := ["_law_parts_here", "_law_chosen_here", "_law_kind", "_law_at", "_law_cells", "_law_change", "_law_pair"]
theorem sc_law_early_cells : FnScope N_law_early_cells ["_law_parts_here", "_law_chosen_here", "_law_kind", "_law_at"] (defScope s_law_early_cells) := ⟨rfl, rfl, rfl, by decide +kernel, rfl, by decide +kernel, by decide +kernel⟩
abbrev s_law_same_run : Stmt := top 86
abbrev N_law_same_run : List Str := ["_law_one", "_law_other", "_law_cells", "_law_key", "_law_seen", "_law_pair"]
theorem sc_law_same_run : FnScope N_law_same_run ["_law_one", "_law_other", "_law_cells"] (defScope s_law_same_run) := ⟨rfl, rfl, rfl, by decide +kernel, rfl, by decide +kernel, by decide +kernel⟩
abbrev s_law : Stmt := top 87
abbrev N_law : List Str := ["_law_script", "_law_state_here", "_law_many_here", "_law_parts_here", "_law_program_here", "_law_chosen_here", "_law_changed", "_law_words", "_law_at", "_law_name", "_law_cells"]
theorem sc_law : FnScope N_law ["_law_script"] (defScope s_law) := ⟨rfl, rfl, rfl, by decide +kernel, rfl, by decide +kernel, by decide +kernel⟩
/-- what stands behind the top -/
structure Tops (w : World) (K : PySem.W.Frag) (mg : Str → Option Value) where
  z_isinstance : mg "isinstance" = none
  z_str : mg "str" = none
  z_tuple : mg "tuple" = none
  z_list : mg "list" = none
  z_len : mg "len" = none
  z_all : mg "all" = none
  z_set : mg "set" = none
  z_enumerate : mg "enumerate" = none
  z_range : mg "range" = none
  z_abs : mg "abs" = none
  z_int : mg "int" = none
  z_max : mg "max" = none
  z_dict : mg "dict" = none
  z_zip : mg "zip" = none
  z_any : mg "any" = none
  z_bool : mg "bool" = none
  u_LONGEST_NAME : Tok
  c_LONGEST_NAME : mg "LONGEST_NAME" = some (.int 8 u_LONGEST_NAME)
  u_MOST_ROWS : Tok
  c_MOST_ROWS : mg "MOST_ROWS" = some (.int 16 u_MOST_ROWS)
  u_DEEPEST_IF : Tok
  c_DEEPEST_IF : mg "DEEPEST_IF" = some (.int 3 u_DEEPEST_IF)
  u_LEAST_WORDS : Tok
  c_LEAST_WORDS : mg "LEAST_WORDS" = some (.int 2 u_LEAST_WORDS)
  u_MOST_WORDS : Tok
  c_MOST_WORDS : mg "MOST_WORDS" = some (.int 4 u_MOST_WORDS)
  u_LEAST_SOURCES : Tok
  c_LEAST_SOURCES : mg "LEAST_SOURCES" = some (.int 1 u_LEAST_SOURCES)
  u_MOST_SOURCES : Tok
  c_MOST_SOURCES : mg "MOST_SOURCES" = some (.int 4 u_MOST_SOURCES)
  u_MOST_DERIVED : Tok
  c_MOST_DERIVED : mg "MOST_DERIVED" = some (.int 6 u_MOST_DERIVED)
  u_MOST_EFFECTS : Tok
  c_MOST_EFFECTS : mg "MOST_EFFECTS" = some (.int 4 u_MOST_EFFECTS)
  u_LETTERS : Tok
  c_LETTERS : mg "LETTERS" = some (.str "abcdefghijklmnopqrstuvwxyz" u_LETTERS)
  a_is_integer : Addr
  d_is_integer : FuncData
  F_is_integer : Fun K "is_integer" "is_integer" s_is_integer a_is_integer d_is_integer
  b_is_integer : Binds K d_is_integer ["value"] []
  m_is_integer : mg "is_integer" = some (.ref a_is_integer)
  a_is_name : Addr
  d_is_name : FuncData
  F_is_name : Fun K "is_name" "is_name" s_is_name a_is_name d_is_name
  b_is_name : Binds K d_is_name ["value"] []
  m_is_name : mg "is_name" = some (.ref a_is_name)
  a_are_names : Addr
  d_are_names : FuncData
  F_are_names : Fun K "are_names" "are_names" s_are_names a_are_names d_are_names
  b_are_names : Binds K d_are_names ["value", "least", "most"] []
  m_are_names : mg "are_names" = some (.ref a_are_names)
  a_are_named_pairs : Addr
  d_are_named_pairs : FuncData
  F_are_named_pairs : Fun K "are_named_pairs" "are_named_pairs" s_are_named_pairs a_are_named_pairs d_are_named_pairs
  b_are_named_pairs : Binds K d_are_named_pairs ["value", "most", "taken"] []
  m_are_named_pairs : mg "are_named_pairs" = some (.ref a_are_named_pairs)
  a_InvalidProgram_init : Addr
  d_InvalidProgram_init : FuncData
  F_InvalidProgram_init : Fun K "__init__" "InvalidProgram.__init__" s_InvalidProgram_init a_InvalidProgram_init d_InvalidProgram_init
  b_InvalidProgram_init : Binds K d_InvalidProgram_init ["self", "part", "path"] []
  a_InvalidStart_init : Addr
  d_InvalidStart_init : FuncData
  F_InvalidStart_init : Fun K "__init__" "InvalidStart.__init__" s_InvalidStart_init a_InvalidStart_init d_InvalidStart_init
  b_InvalidStart_init : Binds K d_InvalidStart_init ["self", "words"] []
  a_InvalidPath_init : Addr
  d_InvalidPath_init : FuncData
  F_InvalidPath_init : Fun K "__init__" "InvalidPath.__init__" s_InvalidPath_init a_InvalidPath_init d_InvalidPath_init
  b_InvalidPath_init : Binds K d_InvalidPath_init ["self", "path"] []
  a_UnknownCell_init : Addr
  d_UnknownCell_init : FuncData
  F_UnknownCell_init : Fun K "__init__" "UnknownCell.__init__" s_UnknownCell_init a_UnknownCell_init d_UnknownCell_init
  b_UnknownCell_init : Binds K d_UnknownCell_init ["self", "name"] []
  a_InvalidChange_init : Addr
  d_InvalidChange_init : FuncData
  F_InvalidChange_init : Fun K "__init__" "InvalidChange.__init__" s_InvalidChange_init a_InvalidChange_init d_InvalidChange_init
  b_InvalidChange_init : Binds K d_InvalidChange_init ["self", "index"] []
  a_Record_init : Addr
  d_Record_init : FuncData
  F_Record_init : Fun K "__init__" "Record.__init__" s_Record_init a_Record_init d_Record_init
  b_Record_init : Binds K d_Record_init ["self"] []
  a_Record_parts : Addr
  d_Record_parts : FuncData
  F_Record_parts : Fun K "parts" "Record.parts" s_Record_parts a_Record_parts d_Record_parts
  b_Record_parts : Binds K d_Record_parts ["self"] []
  a_TrueRun_init : Addr
  d_TrueRun_init : FuncData
  a_TrueRun_word_in : Addr
  d_TrueRun_word_in : FuncData
  F_TrueRun_word_in : Fun K "word_in" "TrueRun.word_in" s_TrueRun_word_in a_TrueRun_word_in d_TrueRun_word_in
  b_TrueRun_word_in : Binds K d_TrueRun_word_in ["self", "slot"] []
  a_do_read : Addr
  d_do_read : FuncData
  F_do_read : Fun K "do_read" "do_read" s_do_read a_do_read d_do_read
  b_do_read : Binds K d_do_read ["run", "row"] []
  m_do_read : mg "do_read" = some (.ref a_do_read)
  a_do_peek : Addr
  d_do_peek : FuncData
  F_do_peek : Fun K "do_peek" "do_peek" s_do_peek a_do_peek d_do_peek
  b_do_peek : Binds K d_do_peek ["run", "row"] []
  m_do_peek : mg "do_peek" = some (.ref a_do_peek)
  a_do_put : Addr
  d_do_put : FuncData
  F_do_put : Fun K "do_put" "do_put" s_do_put a_do_put d_do_put
  b_do_put : Binds K d_do_put ["run", "row"] []
  m_do_put : mg "do_put" = some (.ref a_do_put)
  a_do_write : Addr
  d_do_write : FuncData
  F_do_write : Fun K "do_write" "do_write" s_do_write a_do_write d_do_write
  b_do_write : Binds K d_do_write ["run", "row"] []
  m_do_write : mg "do_write" = some (.ref a_do_write)
  a_do_say : Addr
  d_do_say : FuncData
  F_do_say : Fun K "do_say" "do_say" s_do_say a_do_say d_do_say
  b_do_say : Binds K d_do_say ["run", "row"] []
  m_do_say : mg "do_say" = some (.ref a_do_say)
  a_do_rows : Addr
  d_do_rows : FuncData
  F_do_rows : Fun K "do_rows" "do_rows" s_do_rows a_do_rows d_do_rows
  b_do_rows : Binds K d_do_rows ["run", "rows"] []
  m_do_rows : mg "do_rows" = some (.ref a_do_rows)
  a_run_truly : Addr
  d_run_truly : FuncData
  F_run_truly : Fun K "run_truly" "run_truly" s_run_truly a_run_truly d_run_truly
  b_run_truly : Binds K d_run_truly ["program", "known", "rows"] []
  m_run_truly : mg "run_truly" = some (.ref a_run_truly)
  a_is_start : Addr
  d_is_start : FuncData
  F_is_start : Fun K "is_start" "is_start" s_is_start a_is_start d_is_start
  b_is_start : Binds K d_is_start ["program", "words"] []
  m_is_start : mg "is_start" = some (.ref a_is_start)
  a_check_start : Addr
  d_check_start : FuncData
  F_check_start : Fun K "check_start" "check_start" s_check_start a_check_start d_check_start
  b_check_start : Binds K d_check_start ["program", "words"] []
  m_check_start : mg "check_start" = some (.ref a_check_start)
  a_known_words : Addr
  d_known_words : FuncData
  F_known_words : Fun K "known_words" "known_words" s_known_words a_known_words d_known_words
  b_known_words : Binds K d_known_words ["program", "words"] []
  m_known_words : mg "known_words" = some (.ref a_known_words)
  a_true_words : Addr
  d_true_words : FuncData
  F_true_words : Fun K "true_words" "true_words" s_true_words a_true_words d_true_words
  b_true_words : Binds K d_true_words ["program", "words"] []
  m_true_words : mg "true_words" = some (.ref a_true_words)
  a_true_run : Addr
  d_true_run : FuncData
  F_true_run : Fun K "true_run" "true_run" s_true_run a_true_run d_true_run
  b_true_run : Binds K d_true_run ["program", "words", "name"] []
  m_true_run : mg "true_run" = some (.ref a_true_run)
  a_Scope_init : Addr
  d_Scope_init : FuncData
  F_Scope_init : Fun K "__init__" "Scope.__init__" s_Scope_init a_Scope_init d_Scope_init
  b_Scope_init : Binds K d_Scope_init ["self", "kind", "words", "sources", "readable"] []
  a_is_read_row : Addr
  d_is_read_row : FuncData
  F_is_read_row : Fun K "is_read_row" "is_read_row" s_is_read_row a_is_read_row d_is_read_row
  b_is_read_row : Binds K d_is_read_row ["row", "scope"] []
  m_is_read_row : mg "is_read_row" = some (.ref a_is_read_row)
  a_is_put_row : Addr
  d_is_put_row : FuncData
  F_is_put_row : Fun K "is_put_row" "is_put_row" s_is_put_row a_is_put_row d_is_put_row
  b_is_put_row : Binds K d_is_put_row ["row", "scope"] []
  m_is_put_row : mg "is_put_row" = some (.ref a_is_put_row)
  a_is_if_row : Addr
  d_is_if_row : FuncData
  F_is_if_row : Fun K "is_if_row" "is_if_row" s_is_if_row a_is_if_row d_is_if_row
  b_is_if_row : Binds K d_is_if_row ["row", "scope"] []
  m_is_if_row : mg "is_if_row" = some (.ref a_is_if_row)
  a_is_slot_row : Addr
  d_is_slot_row : FuncData
  F_is_slot_row : Fun K "is_slot_row" "is_slot_row" s_is_slot_row a_is_slot_row d_is_slot_row
  b_is_slot_row : Binds K d_is_slot_row ["row", "scope"] []
  m_is_slot_row : mg "is_slot_row" = some (.ref a_is_slot_row)
  a_is_write_row : Addr
  d_is_write_row : FuncData
  F_is_write_row : Fun K "is_write_row" "is_write_row" s_is_write_row a_is_write_row d_is_write_row
  b_is_write_row : Binds K d_is_write_row ["row", "scope"] []
  m_is_write_row : mg "is_write_row" = some (.ref a_is_write_row)
  a_check_of : Addr
  d_check_of : FuncData
  F_check_of : Fun K "check_of" "check_of" s_check_of a_check_of d_check_of
  b_check_of : Binds K d_check_of ["kind", "form"] []
  m_check_of : mg "check_of" = some (.ref a_check_of)
  a_is_valid_row : Addr
  d_is_valid_row : FuncData
  F_is_valid_row : Fun K "is_valid_row" "is_valid_row" s_is_valid_row a_is_valid_row d_is_valid_row
  b_is_valid_row : Binds K d_is_valid_row ["row", "scope", "depth"] []
  m_is_valid_row : mg "is_valid_row" = some (.ref a_is_valid_row)
  a_first_wrong_path : Addr
  d_first_wrong_path : FuncData
  F_first_wrong_path : Fun K "first_wrong_path" "first_wrong_path" s_first_wrong_path a_first_wrong_path d_first_wrong_path
  b_first_wrong_path : Binds K d_first_wrong_path ["rows", "scope", "base", "depth"] []
  m_first_wrong_path : mg "first_wrong_path" = some (.ref a_first_wrong_path)
  a_paths_of_rows : Addr
  d_paths_of_rows : FuncData
  F_paths_of_rows : Fun K "paths_of_rows" "paths_of_rows" s_paths_of_rows a_paths_of_rows d_paths_of_rows
  b_paths_of_rows : Binds K d_paths_of_rows ["rows", "base"] []
  m_paths_of_rows : mg "paths_of_rows" = some (.ref a_paths_of_rows)
  a_row_behind : Addr
  d_row_behind : FuncData
  F_row_behind : Fun K "row_behind" "row_behind" s_row_behind a_row_behind d_row_behind
  b_row_behind : Binds K d_row_behind ["rows", "steps"] []
  m_row_behind : mg "row_behind" = some (.ref a_row_behind)
  a_rows_with : Addr
  d_rows_with : FuncData
  F_rows_with : Fun K "rows_with" "rows_with" s_rows_with a_rows_with d_rows_with
  b_rows_with : Binds K d_rows_with ["rows", "steps", "row"] []
  m_rows_with : mg "rows_with" = some (.ref a_rows_with)
  a_slots_in : Addr
  d_slots_in : FuncData
  F_slots_in : Fun K "slots_in" "slots_in" s_slots_in a_slots_in d_slots_in
  b_slots_in : Binds K d_slots_in ["rows"] []
  m_slots_in : mg "slots_in" = some (.ref a_slots_in)
  a_Program_init : Addr
  d_Program_init : FuncData
  F_Program_init : Fun K "__init__" "Program.__init__" s_Program_init a_Program_init d_Program_init
  b_Program_init : Binds K d_Program_init ["self", "words", "sources", "derived", "effects"] []
  a_Program_eq : Addr
  d_Program_eq : FuncData
  F_Program_eq : Fun K "__eq__" "Program.__eq__" s_Program_eq a_Program_eq d_Program_eq
  b_Program_eq : Binds K d_Program_eq ["self", "other"] []
  a_Program_cells : Addr
  d_Program_cells : FuncData
  F_Program_cells : Fun K "cells" "Program.cells" s_Program_cells a_Program_cells d_Program_cells
  b_Program_cells : Binds K d_Program_cells ["self"] []
  a_Program_derived_names : Addr
  d_Program_derived_names : FuncData
  F_Program_derived_names : Fun K "derived_names" "Program.derived_names" s_Program_derived_names a_Program_derived_names d_Program_derived_names
  b_Program_derived_names : Binds K d_Program_derived_names ["self"] []
  a_Program_effect_names : Addr
  d_Program_effect_names : FuncData
  F_Program_effect_names : Fun K "effect_names" "Program.effect_names" s_Program_effect_names a_Program_effect_names d_Program_effect_names
  b_Program_effect_names : Binds K d_Program_effect_names ["self"] []
  a_Program_body : Addr
  d_Program_body : FuncData
  F_Program_body : Fun K "body" "Program.body" s_Program_body a_Program_body d_Program_body
  b_Program_body : Binds K d_Program_body ["self", "name"] []
  a_Program_row_paths : Addr
  d_Program_row_paths : FuncData
  F_Program_row_paths : Fun K "row_paths" "Program.row_paths" s_Program_row_paths a_Program_row_paths d_Program_row_paths
  b_Program_row_paths : Binds K d_Program_row_paths ["self"] []
  a_Program_row_at : Addr
  d_Program_row_at : FuncData
  F_Program_row_at : Fun K "row_at" "Program.row_at" s_Program_row_at a_Program_row_at d_Program_row_at
  b_Program_row_at : Binds K d_Program_row_at ["self", "path"] []
  a_Program_with_row : Addr
  d_Program_with_row : FuncData
  F_Program_with_row : Fun K "with_row" "Program.with_row" s_Program_with_row a_Program_with_row d_Program_with_row
  b_Program_with_row : Binds K d_Program_with_row ["self", "path", "row"] []
  a_names_of : Addr
  d_names_of : FuncData
  F_names_of : Fun K "names_of" "names_of" s_names_of a_names_of d_names_of
  b_names_of : Binds K d_names_of ["pairs"] []
  m_names_of : mg "names_of" = some (.ref a_names_of)
  a_is_path_form : Addr
  d_is_path_form : FuncData
  F_is_path_form : Fun K "is_path_form" "is_path_form" s_is_path_form a_is_path_form d_is_path_form
  b_is_path_form : Binds K d_is_path_form ["value"] []
  m_is_path_form : mg "is_path_form" = some (.ref a_is_path_form)
  a_check_parts : Addr
  d_check_parts : FuncData
  F_check_parts : Fun K "check_parts" "check_parts" s_check_parts a_check_parts d_check_parts
  b_check_parts : Binds K d_check_parts ["words", "sources", "derived", "effects"] []
  m_check_parts : mg "check_parts" = some (.ref a_check_parts)
  a_check_bodies : Addr
  d_check_bodies : FuncData
  F_check_bodies : Fun K "check_bodies" "check_bodies" s_check_bodies a_check_bodies d_check_bodies
  b_check_bodies : Binds K d_check_bodies ["words", "sources", "derived", "effects"] []
  m_check_bodies : mg "check_bodies" = some (.ref a_check_bodies)
  a_check_body : Addr
  d_check_body : FuncData
  F_check_body : Fun K "check_body" "check_body" s_check_body a_check_body d_check_body
  b_check_body : Binds K d_check_body ["rows", "scope", "index"] []
  m_check_body : mg "check_body" = some (.ref a_check_body)
  a_is_change : Addr
  d_is_change : FuncData
  F_is_change : Fun K "is_change" "is_change" s_is_change a_is_change d_is_change
  b_is_change : Binds K d_is_change ["program", "value"] []
  m_is_change : mg "is_change" = some (.ref a_is_change)
  a_check_changes : Addr
  d_check_changes : FuncData
  F_check_changes : Fun K "check_changes" "check_changes" s_check_changes a_check_changes d_check_changes
  b_check_changes : Binds K d_check_changes ["program", "changes", "most"] []
  m_check_changes : mg "check_changes" = some (.ref a_check_changes)
  a_with_changes : Addr
  d_with_changes : FuncData
  F_with_changes : Fun K "with_changes" "with_changes" s_with_changes a_with_changes d_with_changes
  b_with_changes : Binds K d_with_changes ["program", "changes"] []
  m_with_changes : mg "with_changes" = some (.ref a_with_changes)
  a_changed : Addr
  d_changed : FuncData
  F_changed : Fun K "changed" "changed" s_changed a_changed d_changed
  b_changed : Binds K d_changed ["program", "changes"] []
  m_changed : mg "changed" = some (.ref a_changed)
  a_changed_bodies : Addr
  d_changed_bodies : FuncData
  F_changed_bodies : Fun K "changed_bodies" "changed_bodies" s_changed_bodies a_changed_bodies d_changed_bodies
  b_changed_bodies : Binds K d_changed_bodies ["kind", "pairs", "changes"] []
  m_changed_bodies : mg "changed_bodies" = some (.ref a_changed_bodies)
  a_changed_rows : Addr
  d_changed_rows : FuncData
  F_changed_rows : Fun K "changed_rows" "changed_rows" s_changed_rows a_changed_rows d_changed_rows
  b_changed_rows : Binds K d_changed_rows ["rows", "changes"] []
  m_changed_rows : mg "changed_rows" = some (.ref a_changed_rows)
  a__law_state : Addr
  d__law_state : FuncData
  F__law_state : Fun K "_law_state" "_law_state" s_law_state a__law_state d__law_state
  b__law_state : Binds K d__law_state ["_law_script"] []
  m__law_state : mg "_law_state" = some (.ref a__law_state)
  a__law_draw : Addr
  d__law_draw : FuncData
  F__law_draw : Fun K "_law_draw" "_law_draw" s_law_draw a__law_draw d__law_draw
  b__law_draw : Binds K d__law_draw ["_law_state_here", "_law_many_here"] []
  m__law_draw : mg "_law_draw" = some (.ref a__law_draw)
  a__law_names : Addr
  d__law_names : FuncData
  F__law_names : Fun K "_law_names" "_law_names" s_law_names a__law_names d__law_names
  b__law_names : Binds K d__law_names ["_law_state_here", "_law_many_here"] []
  m__law_names : mg "_law_names" = some (.ref a__law_names)
  a__law_many : Addr
  d__law_many : FuncData
  F__law_many : Fun K "_law_many" "_law_many" s_law_many a__law_many d__law_many
  b__law_many : Binds K d__law_many ["_law_rows_here"] []
  m__law_many : mg "_law_many" = some (.ref a__law_many)
  a__law_row : Addr
  d__law_row : FuncData
  F__law_row : Fun K "_law_row" "_law_row" s_law_row a__law_row d__law_row
  b__law_row : Binds K d__law_row ["_law_state_here", "_law_shape"] []
  m__law_row : mg "_law_row" = some (.ref a__law_row)
  a__law_rows : Addr
  d__law_rows : FuncData
  F__law_rows : Fun K "_law_rows" "_law_rows" s_law_rows a__law_rows d__law_rows
  b__law_rows : Binds K d__law_rows ["_law_state_here", "_law_shape", "_law_depth", "_law_room"] []
  m__law_rows : mg "_law_rows" = some (.ref a__law_rows)
  a__law_parts : Addr
  d__law_parts : FuncData
  F__law_parts : Fun K "_law_parts" "_law_parts" s_law_parts a__law_parts d__law_parts
  b__law_parts : Binds K d__law_parts ["_law_state_here", "_law_sizes", "_law_peeks", "_law_writes"] []
  m__law_parts : mg "_law_parts" = some (.ref a__law_parts)
  a__law_program : Addr
  d__law_program : FuncData
  F__law_program : Fun K "_law_program" "_law_program" s_law_program a__law_program d__law_program
  b__law_program : Binds K d__law_program ["_law_parts_here"] []
  m__law_program : mg "_law_program" = some (.ref a__law_program)
  a__law_chosen : Addr
  d__law_chosen : FuncData
  F__law_chosen : Fun K "_law_chosen" "_law_chosen" s_law_chosen a__law_chosen d__law_chosen
  b__law_chosen : Binds K d__law_chosen ["_law_state_here", "_law_rows_here", "_law_many_here"] []
  m__law_chosen : mg "_law_chosen" = some (.ref a__law_chosen)
  a__law_paths : Addr
  d__law_paths : FuncData
  F__law_paths : Fun K "_law_paths" "_law_paths" s_law_paths a__law_paths d__law_paths
  b__law_paths : Binds K d__law_paths ["_law_rows_here", "_law_path"] []
  m__law_paths : mg "_law_paths" = some (.ref a__law_paths)
  a__law_all_paths : Addr
  d__law_all_paths : FuncData
  F__law_all_paths : Fun K "_law_all_paths" "_law_all_paths" s_law_all_paths a__law_all_paths d__law_all_paths
  b__law_all_paths : Binds K d__law_all_paths ["_law_parts_here"] []
  m__law_all_paths : mg "_law_all_paths" = some (.ref a__law_all_paths)
  a__law_changes : Addr
  d__law_changes : FuncData
  F__law_changes : Fun K "_law_changes" "_law_changes" s_law_changes a__law_changes d__law_changes
  b__law_changes : Binds K d__law_changes ["_law_parts_here"] []
  m__law_changes : mg "_law_changes" = some (.ref a__law_changes)
  a__law_starts : Addr
  d__law_starts : FuncData
  F__law_starts : Fun K "_law_starts" "_law_starts" s_law_starts a__law_starts d__law_starts
  b__law_starts : Binds K d__law_starts ["_law_parts_here"] []
  m__law_starts : mg "_law_starts" = some (.ref a__law_starts)
  a__law_early_cells : Addr
  d__law_early_cells : FuncData
  F__law_early_cells : Fun K "_law_early_cells" "_law_early_cells" s_law_early_cells a__law_early_cells d__law_early_cells
  b__law_early_cells : Binds K d__law_early_cells ["_law_parts_here", "_law_chosen_here", "_law_kind", "_law_at"] []
  m__law_early_cells : mg "_law_early_cells" = some (.ref a__law_early_cells)
  a__law_same_run : Addr
  d__law_same_run : FuncData
  F__law_same_run : Fun K "_law_same_run" "_law_same_run" s_law_same_run a__law_same_run d__law_same_run
  b__law_same_run : Binds K d__law_same_run ["_law_one", "_law_other", "_law_cells"] []
  m__law_same_run : mg "_law_same_run" = some (.ref a__law_same_run)
  a_law : Addr
  d_law : FuncData
  F_law : Fun K "law" "law" s_law a_law d_law
  b_law : Binds K d_law ["_law_script"] []
  m_law : mg "law" = some (.ref a_law)
  c_ToldError : Addr
  m_ToldError : mg "ToldError" = some (.ref c_ToldError)
  c_InvalidProgram : Addr
  m_InvalidProgram : mg "InvalidProgram" = some (.ref c_InvalidProgram)
  c_InvalidStart : Addr
  m_InvalidStart : mg "InvalidStart" = some (.ref c_InvalidStart)
  c_InvalidPath : Addr
  m_InvalidPath : mg "InvalidPath" = some (.ref c_InvalidPath)
  c_UnknownCell : Addr
  m_UnknownCell : mg "UnknownCell" = some (.ref c_UnknownCell)
  c_InvalidChange : Addr
  m_InvalidChange : mg "InvalidChange" = some (.ref c_InvalidChange)
  c_Record : Addr
  m_Record : mg "Record" = some (.ref c_Record)
  c_TrueRun : Addr
  m_TrueRun : mg "TrueRun" = some (.ref c_TrueRun)
  l_TrueRun : Cls K c_TrueRun
  k_TrueRun : Mk K c_TrueRun a_TrueRun_init
  n_TrueRun_default : NoAttr K c_TrueRun "default"
  n_TrueRun_known : NoAttr K c_TrueRun "known"
  n_TrueRun_slots : NoAttr K c_TrueRun "slots"
  n_TrueRun_noted : NoAttr K c_TrueRun "noted"
  n_TrueRun_peeked : NoAttr K c_TrueRun "peeked"
  n_TrueRun_said : NoAttr K c_TrueRun "said"
  n_TrueRun_written : NoAttr K c_TrueRun "written"
  n_TrueRun_given : NoAttr K c_TrueRun "given"
  t_TrueRun_word_in : Meth K c_TrueRun "word_in" a_TrueRun_word_in
  c_Scope : Addr
  m_Scope : mg "Scope" = some (.ref c_Scope)
  l_Scope : Cls K c_Scope
  k_Scope : Mk K c_Scope a_Scope_init
  n_Scope_kind : NoAttr K c_Scope "kind"
  n_Scope_words : NoAttr K c_Scope "words"
  n_Scope_sources : NoAttr K c_Scope "sources"
  n_Scope_readable : NoAttr K c_Scope "readable"
  c_Program : Addr
  m_Program : mg "Program" = some (.ref c_Program)
  l_Program : Cls K c_Program
  k_Program : Mk K c_Program a_Program_init
  n_Program_words : NoAttr K c_Program "words"
  n_Program_sources : NoAttr K c_Program "sources"
  n_Program_derived : NoAttr K c_Program "derived"
  n_Program_effects : NoAttr K c_Program "effects"
  n_Program__derived_names : NoAttr K c_Program "_derived_names"
  n_Program__effect_names : NoAttr K c_Program "_effect_names"
  t_Program_cells : Meth K c_Program "cells" a_Program_cells
  t_Program_derived_names : Meth K c_Program "derived_names" a_Program_derived_names
  t_Program_effect_names : Meth K c_Program "effect_names" a_Program_effect_names
  t_Program_body : Meth K c_Program "body" a_Program_body
  t_Program_row_paths : Meth K c_Program "row_paths" a_Program_row_paths
  t_Program_row_at : Meth K c_Program "row_at" a_Program_row_at
  t_Program_with_row : Meth K c_Program "with_row" a_Program_with_row
  F_TrueRun_init : Sup PySem.Challenge.pw_toldonward_k80_whole_changes_keep_the_tr K "TrueRun.__init__" s_TrueRun_init a_TrueRun_init c_TrueRun a_Record_init d_TrueRun_init
  b_TrueRun_init : Binds K d_TrueRun_init ["self", "default", "known"] []
  t_TrueRun_parts : Meth K c_TrueRun "parts" a_Record_parts
  a_SLOT_PLACES : Addr
  c_SLOT_PLACES : mg "SLOT_PLACES" = some (.ref a_SLOT_PLACES)
  w_SLOT_PLACES : KTab K w a_SLOT_PLACES
  w_SLOT_PLACES_read : KDct K w a_SLOT_PLACES "read" (.int 2)
  w_SLOT_PLACES_peek : KDct K w a_SLOT_PLACES "peek" (.int 2)
  w_SLOT_PLACES_put : KDct K w a_SLOT_PLACES "put" (.int 1)
  w_SLOT_PLACES_if : KDct K w a_SLOT_PLACES "if" (.int 1)
  w_SLOT_PLACES_give : KDct K w a_SLOT_PLACES "give" (.int 1)
  w_SLOT_PLACES_write : KDct K w a_SLOT_PLACES "write" (.int 2)
  w_SLOT_PLACES_say : KDct K w a_SLOT_PLACES "say" (.int 1)
  a_DERIVED_FORMS : Addr
  c_DERIVED_FORMS : mg "DERIVED_FORMS" = some (.ref a_DERIVED_FORMS)
  w_DERIVED_FORMS : KTab K w a_DERIVED_FORMS
  w_DERIVED_FORMS_read : KDct K w a_DERIVED_FORMS "read" (.ref a_is_read_row)
  w_DERIVED_FORMS_put : KDct K w a_DERIVED_FORMS "put" (.ref a_is_put_row)
  w_DERIVED_FORMS_if : KDct K w a_DERIVED_FORMS "if" (.ref a_is_if_row)
  w_DERIVED_FORMS_give : KDct K w a_DERIVED_FORMS "give" (.ref a_is_slot_row)
  a_EFFECT_FORMS : Addr
  c_EFFECT_FORMS : mg "EFFECT_FORMS" = some (.ref a_EFFECT_FORMS)
  w_EFFECT_FORMS : KTab K w a_EFFECT_FORMS
  w_EFFECT_FORMS_read : KDct K w a_EFFECT_FORMS "read" (.ref a_is_read_row)
  w_EFFECT_FORMS_peek : KDct K w a_EFFECT_FORMS "peek" (.ref a_is_read_row)
  w_EFFECT_FORMS_put : KDct K w a_EFFECT_FORMS "put" (.ref a_is_put_row)
  w_EFFECT_FORMS_if : KDct K w a_EFFECT_FORMS "if" (.ref a_is_if_row)
  w_EFFECT_FORMS_write : KDct K w a_EFFECT_FORMS "write" (.ref a_is_write_row)
  w_EFFECT_FORMS_say : KDct K w a_EFFECT_FORMS "say" (.ref a_is_slot_row)
  a_ACTIONS : Addr
  c_ACTIONS : mg "ACTIONS" = some (.ref a_ACTIONS)
  w_ACTIONS : KTab K w a_ACTIONS
  w_ACTIONS_read : KDct K w a_ACTIONS "read" (.ref a_do_read)
  w_ACTIONS_peek : KDct K w a_ACTIONS "peek" (.ref a_do_peek)
  w_ACTIONS_put : KDct K w a_ACTIONS "put" (.ref a_do_put)
  w_ACTIONS_write : KDct K w a_ACTIONS "write" (.ref a_do_write)
  w_ACTIONS_say : KDct K w a_ACTIONS "say" (.ref a_do_say)
end K80
namespace K80
open PySem PySem.Spec PyProof.Rows L2 Td
/-- the state of the draws at st -/
def stL (sc : Addr) (i d c s : Int) : List V := [.ref sc, .int i, .int d, .int c, .int s]
def StOk (H : Hp) (st sc : Addr) : Prop := ∃ (cs : List Int) (i d c s : Int),
  H st = some (.lst (stL sc i d c s)) ∧ H sc = some (.lst (cs.map V.int)) ∧ 0 ≤ d ∧ 0 ≤ i ∧ i ≤ cs.length ∧ cs.length ≤ 63 ∧ sc ≠ st
def spDraw : Sp := fun vs H Q _ => ∃ (st sc : Addr) (m : Int), vs = [.ref st, .int m] ∧ 0 < m ∧ m < 2 ^ 64 ∧ StOk H st sc ∧
  ∀ (r : Int) (H' : Hp), 0 ≤ r → r < m → Keep st H H' → StOk H' st sc → (∃ L, H' = upd H st (.lst L)) → Q (.int r) H'
def spState (K : PySem.W.Frag) : Sp := fun vs H Q _ => ∃ (a : Addr) (ns : List Int), vs = [.ref a] ∧ SqL K H a (ns.map V.int) ∧ ns.length ≤ 63 ∧
  ∀ (st sc : Addr) (H' : Hp), Same H H' → H st = none → H sc = none → StOk H' st sc → Q (.ref st) H'
section
variable {P : Program} {w : World} {K : PySem.W.Frag} {mg : Str → Option Value} {base : Heap}
theorem ok_draw (T : Tops w K mg) : FnOk P w K mg base CX0 1 T.a__law_draw T.d__law_draw ["_law_state_here", "_law_many_here"] spDraw := by
  refine T.F__law_draw.ok sc_law_draw (fun vs H Q E h => ?_) (fun cdv A outer s H vs Q E hr h => ?_)
  · obtain ⟨st, sc, m, rfl, _⟩ := h
    rfl
  obtain ⟨st, sc, m, rfl, hm0, hm1, ⟨cs, i, d, c, z, h1, h2, hd0, hi0, hi, h63, hne⟩, q⟩ := h
  refine ⟨_, (pss_cons (ps_augS (pv 0) pe_int get_list pe_int ip_add set_list)
    (C8.pss_cut (ps_if (PW.pt (pw_and (pt_cmpR op_eq (pe_ix ix_list (pv 0) pe_int (fun _ _ => rfl)) pe_int (nomark _)) (pw_and1 (pt_cmpR op_lt (pe_ix ix_list (pv 0) pe_int (fun _ _ => rfl)) (pe_callB call_len rfl T.z_len PySem.boot_len (pa_cons (pe_ix ix_list (pv 0) pe_int (fun _ _ => rfl)) pa_nil)) (nomark _))))) (pss_cons (ps_set (i := 2) sc_law_draw.nd rfl (Or.inl rfl) (pe_ix ix_list (pe_ix ix_list (pv 0) pe_int (fun _ _ => rfl)) (pe_ix ix_list (pv 0) pe_int (fun _ _ => rfl)) (fun _ _ => rfl)))
    (pss_cons (ps_augS (pv 0) pe_int get_list pe_int ip_add set_list)
    (pss_one (ps_if (pt_cmpR op_ge (pe_callB call_abs rfl T.z_abs (by decide +kernel) (pa_cons (pv 2) pa_nil)) (pe_op op_pow pe_int pe_int) (nomark _)) (pss_one (ps_asg (pe_callB call_abs rfl T.z_abs (by decide +kernel) (pa_cons (pv 2) pa_nil)) (pg_sub (pv 0) pe_int set_list))) (pss_one (ps_asg (pe_op op_modN (pe_callTy call_int1 rfl T.z_int (by decide +kernel) (pa_cons (pe_op op_add (pe_op op_add (pe_op op_mul (pe_ix ix_list (pv 0) pe_int (fun _ _ => rfl)) pe_int) (pv 2)) pe_int) pa_nil)) pe_int) (pg_sub (pv 0) pe_int set_list))))))) pss_nil)
    (pss_cons (ps_if (pt_cmpR op_gt (pe_ix ix_list (pv 0) pe_int (fun _ _ => rfl)) pe_int (nomark _)) (pss_cons (ps_set (i := 3) sc_law_draw.nd rfl (Or.inl rfl) (pe_op op_modN (pe_callTy call_int1 rfl T.z_int (by decide +kernel) (pa_cons (pe_ix ix_list (pv 0) pe_int (fun _ _ => rfl)) pa_nil)) (pv 1)))
    (pss_cons (ps_asg (pe_op op_fdivW (pe_ix ix_list (pv 0) pe_int (fun _ _ => rfl)) (pv 1)) (pg_sub (pv 0) pe_int set_list))
    (pss_one (ps_ret (pv 3))))) pss_nil)
    (pss_cons (ps_set (i := 4) sc_law_draw.nd rfl (Or.inl rfl) (pe_op op_modN (pe_callTy call_int1 rfl T.z_int (by decide +kernel) (pa_cons (pe_op op_mul (pe_op op_add (pe_op op_add (pe_ix ix_list (pv 0) pe_int (fun _ _ => rfl)) (pe_op op_mul pe_int (pe_ix ix_list (pv 0) pe_int (fun _ _ => rfl)))) pe_int) pe_int) pa_nil)) pe_int))
    (pss_cons (ps_set (i := 5) sc_law_draw.nd rfl (Or.inl rfl) (pe_op op_modN (pe_callTy call_int1 rfl T.z_int (by decide +kernel) (pa_cons (pe_op op_mul (pv 4) (pe_op op_add (pe_op op_fdivW (pv 4) pe_int) pe_int)) pa_nil)) pe_int))
    (pss_cons (ps_set (i := 6) sc_law_draw.nd rfl (Or.inl rfl) (pe_op op_modN (pe_callTy call_int1 rfl T.z_int (by decide +kernel) (pa_cons (pe_op op_mul (pv 5) (pe_op op_add (pe_op op_fdivW (pv 5) pe_int) pe_int)) pa_nil)) pe_int))
    (pss_one (ps_ret (pe_op op_modN (pe_callTy call_int1 rfl T.z_int (by decide +kernel) (pa_cons (pe_op op_fdivW (pv 6) pe_int) pa_nil)) (pv 1)))))))))), ?_⟩
  -- state[3] += 1
  refine ⟨_, rfl, st, _, 3, _, rfl, rfl, SqL.of h1, rfl, _, _, rfl, rfl, st, _, _, 3, rfl, rfl, h1, rfl, ?_⟩
  have k1 : Keep st H (upd H st (.lst (stL sc i d (c + 1) z))) := Keep.upd
  have e1 : upd H st (.lst (stL sc i d (c + 1) z)) st = some (.lst (stL sc i d (c + 1) z)) := upd_same
  have e2 : upd H st (.lst (stL sc i d (c + 1) z)) sc = some (.lst (cs.map V.int)) := k1 _ _ hne h2
  show C8.tCut _ _ _ _ (upd H st (.lst (stL sc i d (c + 1) z)))
  refine ⟨fun σ' H' => ∃ (v : Option V) (i' d' z' : Int), σ' = [some (.ref st), some (.int m), v, none, none, none, none] ∧
    H' = upd H st (.lst (stL sc i' d' (c + 1) z')) ∧ 0 ≤ d' ∧ 0 ≤ i' ∧ i' ≤ cs.length, ?_, ?_⟩
  · -- if state[2] == 0 and state[1] < len(state[0])
    refine ⟨_, rfl, st, _, 2, _, rfl, rfl, SqL.of e1, rfl, rfl, _, rfl, ?_⟩
    refine ite2 (fun c1 => ?_) (fun _ => iteF ⟨none, i, d, z, rfl, rfl, hd0, hi0, hi⟩)
    refine ⟨_, rfl, st, _, 1, _, rfl, rfl, SqL.of e1, rfl, _, rfl, st, _, 0, _, rfl, rfl, SqL.of e1, rfl, _, (cs.map V.int).length, rfl, .inl ⟨_, SqL.of e2, rfl⟩, _, _, rfl, rfl, _, rfl, ?_⟩
    refine ite2 (fun c2 => ?_) (fun _ => ⟨none, i, d, z, rfl, rfl, hd0, hi0, hi⟩)
    have hlt : i.toNat < cs.length := by
      have := of_decide_eq_true c2
      rw [List.length_map] at this
      omega
    have hat : atI (cs.map V.int) i = some (V.int cs[i.toNat]) := by
      have : atI (cs.map V.int) ((i.toNat : Nat) : Int) = some (V.int cs[i.toNat]) := atI_nat (by rw [List.getElem?_map, List.getElem?_eq_getElem hlt]; rfl)
      rwa [show ((i.toNat : Nat) : Int) = i by omega] at this
    -- cell = state[0][state[1]]; state[1] += 1
    refine ⟨_, rfl, st, _, 0, _, rfl, rfl, SqL.of e1, rfl, _, rfl, st, _, 1, _, rfl, rfl, SqL.of e1, rfl, sc, _, i, V.int cs[i.toNat], rfl, rfl, SqL.of e2, hat, ?_⟩
    refine ⟨_, rfl, st, _, 1, _, rfl, rfl, SqL.of e1, rfl, _, _, rfl, rfl, st, _, _, 1, rfl, rfl, e1, rfl, ?_⟩
    rw [upd_upd]
    have e3 : upd H st (.lst (stL sc (i + 1) d (c + 1) z)) st = some (.lst (stL sc (i + 1) d (c + 1) z)) := upd_same
    rw [show upd H st (.lst ((stL sc i d (c + 1) z).set 1 (V.int ((fun i j => i + j) i 1)))) = upd H st (.lst (stL sc (i + 1) d (c + 1) z)) from rfl]
    -- if abs(cell) >= 10 ** 18
    refine ⟨_, rfl, _, rfl, _, _, rfl, rfl, ⟨by decide, by decide, by decide⟩, _, _, rfl, rfl, _, rfl, ?_⟩
    refine ite2 (fun _ => ?_) (fun _ => ?_)
    · refine ⟨_, rfl, _, rfl, _, rfl, st, _, 2, 2, rfl, rfl, e3, rfl, ?_⟩
      rw [upd_upd]
      exact ⟨_, i + 1, _, z, rfl, rfl, by split <;> omega, by omega, by omega⟩
    · refine ⟨_, rfl, st, _, 4, _, rfl, rfl, SqL.of e3, rfl, _, _, rfl, rfl, .inr ⟨by decide, by decide⟩, _, rfl, _, _, rfl, rfl, _, _, rfl, rfl, .inl ⟨_, rfl, ?_⟩⟩
      refine ⟨_, _, rfl, rfl, (by show (2147483647 : Int) ≠ 0; decide), _, rfl, st, _, 4, 4, rfl, rfl, e3, rfl, ?_⟩
      rw [upd_upd]
      exact ⟨_, i + 1, _, _, rfl, rfl, hd0, by omega, by omega⟩
  · rintro σ' H' ⟨v, i', d', z', rfl, rfl, hd', hi0', hi'⟩
    have e3 : upd H st (.lst (stL sc i' d' (c + 1) z')) st = some (.lst (stL sc i' d' (c + 1) z')) := upd_same
    have e4 : ∀ i2 d2 c2 z2, upd H st (.lst (stL sc i2 d2 c2 z2)) sc = some (.lst (cs.map V.int)) := fun i2 d2 c2 z2 => by rw [upd_ne hne]; exact h2
    have fin : ∀ (r : Int) (d2 : Int), 0 ≤ d2 → 0 ≤ r → r < m → Q (.int r) (upd H st (.lst (stL sc i' d2 (c + 1) z'))) := fun r d2 h0 hr0 hr1 =>
      q r _ hr0 hr1 Keep.upd ⟨cs, i', d2, c + 1, z', upd_same, e4 _ _ _ _, h0, hi0', hi', h63, hne⟩ ⟨_, rfl⟩
    -- if state[2] > 0
    refine ⟨_, rfl, st, _, 2, _, rfl, rfl, SqL.of e3, rfl, _, _, rfl, rfl, _, rfl, ?_⟩
    refine ite2 (fun _ => ?_) (fun _ => ?_)
    · refine ⟨_, rfl, st, _, 2, _, rfl, rfl, SqL.of e3, rfl, .inl ⟨_, rfl, _, rfl, _, _, rfl, rfl, by omega, ?_⟩⟩
      refine ⟨_, rfl, st, _, 2, _, rfl, rfl, SqL.of e3, rfl, _, rfl, _, _, rfl, rfl, wide_div (b := 64) hm0 (by omega) (by decide) (by decide), ?_⟩
      refine ⟨_, rfl, st, _, 2, 2, rfl, rfl, e3, rfl, ?_⟩
      rw [upd_upd]
      refine ⟨_, rfl, fin _ _ (Int.ediv_nonneg hd' (Int.le_of_lt hm0)) ?_ ?_⟩
      · rw [Int.fmod_eq_emod_of_nonneg _ (Int.le_of_lt hm0)]; exact Int.emod_nonneg _ (by omega)
      · rw [Int.fmod_eq_emod_of_nonneg _ (Int.le_of_lt hm0)]; exact Int.emod_lt_of_pos _ hm0
    · -- one, two, three
      refine ⟨_, rfl, st, _, 4, _, rfl, rfl, SqL.of e3, rfl, _, rfl, st, _, 3, _, rfl, rfl, SqL.of e3, rfl, _, _, rfl, rfl, .inl ⟨by decide, by decide⟩, _, _, rfl, rfl, _, _, rfl, rfl, _, _, rfl, rfl, .inr ⟨by decide, by decide⟩, .inl ⟨_, rfl, _, _, rfl, rfl, (by show (2147483647 : Int) ≠ 0; decide), ?_⟩⟩
      dsimp only
      generalize hx : Int.fmod ((z' + 7919 * (c + 1) + 1) * 48271) 2147483647 = one
      have o0 : 0 ≤ one ∧ one < 2147483647 := by
        rw [← hx, Int.fmod_eq_emod_of_nonneg _ (by decide)]
        exact ⟨Int.emod_nonneg _ (by decide), Int.emod_lt_of_pos _ (by decide)⟩
      refine ⟨_, rfl, _, rfl, _, _, rfl, rfl, wide_div (b := 64) (by decide) (by decide) (by decide) (by decide), _, _, rfl, rfl, _, _, rfl, rfl, .inl ⟨by omega, by omega⟩, .inl ⟨_, rfl, _, _, rfl, rfl, (by show (2147483647 : Int) ≠ 0; decide), ?_⟩⟩
      dsimp only
      generalize hy : Int.fmod (one * (one / 1009 + 69621)) 2147483647 = two
      have t0 : 0 ≤ two ∧ two < 2147483647 := by
        rw [← hy, Int.fmod_eq_emod_of_nonneg _ (by decide)]
        exact ⟨Int.emod_nonneg _ (by decide), Int.emod_lt_of_pos _ (by decide)⟩
      refine ⟨_, rfl, _, rfl, _, _, rfl, rfl, wide_div (b := 64) (by decide) (by decide) (by decide) (by decide), _, _, rfl, rfl, _, _, rfl, rfl, .inl ⟨by omega, by omega⟩, .inl ⟨_, rfl, _, _, rfl, rfl, (by show (2147483399 : Int) ≠ 0; decide), ?_⟩⟩
      refine ⟨_, rfl, _, _, rfl, rfl, wide_div (b := 64) (by decide) (by decide) (by decide) (by decide), .inl ⟨_, rfl, _, rfl, _, _, rfl, rfl, by omega, ?_⟩⟩
      refine fin _ _ hd' ?_ ?_
      · rw [Int.fmod_eq_emod_of_nonneg _ (Int.le_of_lt hm0)]; exact Int.emod_nonneg _ (by omega)
      · rw [Int.fmod_eq_emod_of_nonneg _ (Int.le_of_lt hm0)]; exact Int.emod_lt_of_pos _ hm0
end
end K80
namespace K80
open PySem PySem.Spec PyProof.Rows L2 Td
/-! ### the letters -/
def abc : Str := "abcdefghijklmnopqrstuvwxyz"
theorem abc_list : abc.cps.toList = List.range' 97 26 := by decide +kernel
theorem abc_len : abc.length ≤ sizeLine := by
  rw [show abc.length = 26 by decide +kernel]; decide
theorem abc_at {i : Int} (h0 : 0 ≤ i) (h1 : i < 26) : atI abc.cps.toList i = some (97 + i.toNat) := by
  have : atI abc.cps.toList ((i.toNat : Nat) : Int) = some (97 + i.toNat) := atI_nat (by
    rw [abc_list, List.getElem?_range' (by omega), Nat.one_mul])
  rwa [show ((i.toNat : Nat) : Int) = i by omega] at this
theorem add_len (z : Str) (c : Nat) : (z ++ (⟨#[c]⟩ : Str)).length = z.length + 1 := by
  show (z.cps ++ #[c]).size = z.cps.size + 1
  simp
theorem add_low {z : Str} {c : Nat} (h : z.cps.toList.all lowc = true) (hc : lowc c = true) : (z ++ (⟨#[c]⟩ : Str)).cps.toList.all lowc = true := by
  show (z.cps ++ #[c]).toList.all lowc = true
  simp [List.all_append] at h ⊢
  exact ⟨h, hc⟩
theorem add_old {z : Str} {c j x : Nat} (h : z.cps[j]? = some x) : (z ++ (⟨#[c]⟩ : Str)).cps[j]? = some x := by
  show (z.cps ++ #[c])[j]? = some x
  have := (Array.getElem?_eq_some_iff.mp h).1
  rw [Array.getElem?_append_left this]; exact h
theorem add_new (z : Str) (c : Nat) : (z ++ (⟨#[c]⟩ : Str)).cps[z.length]? = some c := by
  show (z.cps ++ #[c])[z.cps.size]? = some c
  simp
theorem low_of {i : Int} (h0 : 0 ≤ i) (h1 : i < 26) : lowc (97 + i.toNat) = true := by
  unfold lowc
  simp
  omega
/-- what the names of one drawing have in common: at the place p stands the k-th letter -/
def letK (first k : Nat) : Nat := 97 + (first + 7 * k) % 26
structure NamesAt (p first : Nat) (ns : List Str) : Prop where
  good : ∀ z ∈ ns, isNm z = true
  at_ : ∀ (j : Nat) (z : Str), ns[j]? = some z → z.cps[p]? = some (letK first j)
theorem NamesAt.nodup {p first : Nat} {ns : List Str} (h : NamesAt p first ns) (hl : ns.length ≤ 26) : ns.Nodup := by
  rw [List.Nodup, List.pairwise_iff_getElem]
  intro i j hi hj hij e3
  have e1 := h.at_ i ns[i] (List.getElem?_eq_getElem hi)
  have e2 := h.at_ j ns[j] (List.getElem?_eq_getElem hj)
  rw [e3, e2] at e1
  have := Option.some.inj e1
  unfold letK at this
  omega
theorem NamesAt.snoc {p first : Nat} {ns : List Str} {z : Str} (h : NamesAt p first ns) (hz : isNm z = true) (ha : z.cps[p]? = some (letK first ns.length)) : NamesAt p first (ns ++ [z]) := by
  refine ⟨fun y hy => ?_, fun j y hy => ?_⟩
  · rcases List.mem_append.mp hy with q | q
    · exact h.good y q
    · rw [List.mem_singleton.mp q]; exact hz
  · by_cases hj : j < ns.length
    · rw [List.getElem?_append_left hj] at hy
      exact h.at_ j y hy
    · rw [List.getElem?_append_right (by omega)] at hy
      have : j = ns.length := by
        rcases Nat.lt_or_ge 0 (j - ns.length) with c | c
        · rw [List.getElem?_eq_none (by simp; omega)] at hy; cases hy
        · omega
      subst this
      simp at hy
      rw [← hy]; exact ha
def spNames : Sp := fun vs H Q _ => ∃ (st sc : Addr) (n : Int), vs = [.ref st, .int n] ∧ 0 ≤ n ∧ n ≤ 20 ∧ StOk H st sc ∧
  ∀ (p : Addr) (ns : List Str) (H' : Hp), Keep st H H' → StOk H' st sc → H p = none → p ≠ st → p ≠ sc → H' p = some (.lst (ns.map V.str)) → (ns.length : Int) = n → Names ns → Q (.ref p) H'
theorem StOk.at {H : Hp} {st sc : Addr} (h : StOk H st sc) : ∃ L, H st = some (.lst L) := by
  obtain ⟨cs, i, d, c, s, h1, _⟩ := h
  exact ⟨_, h1⟩
theorem StOk.scat {H : Hp} {st sc : Addr} (h : StOk H st sc) : ∃ L, H sc = some (.lst L) := by
  obtain ⟨cs, i, d, c, s, h1, h2, _⟩ := h
  exact ⟨_, h2⟩
theorem StOk.other {H : Hp} {st sc p : Addr} {o : HO} (h : StOk H st sc) (hp : p ≠ st) (hq : p ≠ sc) : StOk (upd H p o) st sc := by
  obtain ⟨cs, i, d, c, s, h1, h2, r⟩ := h
  exact ⟨cs, i, d, c, s, by rw [upd_ne (Ne.symm hp)]; exact h1, by rw [upd_ne (Ne.symm hq)]; exact h2, r⟩
theorem StOk.ne {H : Hp} {st sc p : Addr} (h : StOk H st sc) (hp : H p = none) : p ≠ st ∧ p ≠ sc := by
  obtain ⟨L, h1⟩ := h.at
  obtain ⟨M, h2⟩ := h.scat
  exact ⟨Ne.symm (ne_of_none h1 hp), Ne.symm (ne_of_none h2 hp)⟩
theorem StOk.new {H : Hp} {st sc p : Addr} {o : HO} (h : StOk H st sc) (hp : H p = none) : StOk (upd H p o) st sc :=
  h.other (h.ne hp).1 (h.ne hp).2
section
variable {P : Program} {w : World} {K : PySem.W.Frag} {mg : Str → Option Value} {base : Heap}
theorem ok_state (T : Tops w K mg) : FnOk P w K mg base CX0 1 T.a__law_state T.d__law_state ["_law_script"] (spState K) := by
  refine T.F__law_state.ok sc_law_state (fun vs H Q E h => ?_) (fun cdv A outer s H vs Q E hr h => ?_)
  · obtain ⟨a, ns, rfl, _⟩ := h
    rfl
  obtain ⟨a, ns, rfl, hS, hl, q⟩ := h
  refine ⟨_, (pss_one (ps_ret (pe_lst (pa_cons (pe_callTy call_list_of rfl T.z_list (by decide +kernel) (pa_cons (pe_slice sl_list (pv 0) po_none (po_some pe_int)) pa_nil)) (pa_cons pe_int (pa_cons pe_int (pa_cons pe_int (pa_cons pe_int pa_nil)))))))), ?_⟩
  have hcut : cutV (ns.map V.int) none (some 63) = ns.map V.int := by
    unfold cutV
    rw [HT.sIx_none, show HT.sIx (ns.map V.int).length (ns.map V.int).length (some 63) = min 63 (ns.map V.int).length from HT.sIx_nat _ _ 63]
    rw [List.drop_zero, List.take_of_length_le (by rw [List.length_map]; omega)]
  refine ⟨_, rfl, 63, rfl, a, _, rfl, hS, fun p hp => ⟨p, _, rfl, .inl (SqL.of upd_same), fun l hl2 => ⟨by show 5 ≤ sizeLine; decide, fun st hst => ?_⟩⟩⟩
  rw [hcut] at hl2 hst ⊢
  have npl : p ≠ l := fun e => by rw [e, upd_same] at hl2; cases hl2
  have hl0 : H l = none := by rw [upd_ne (Ne.symm npl)] at hl2; exact hl2
  have nls : l ≠ st := fun e => by rw [e, upd_same] at hst; cases hst
  have hst2 : H st = none := by
    rw [upd_ne (Ne.symm nls)] at hst
    by_cases c : st = p
    · rw [c, upd_same] at hst; cases hst
    · rw [upd_ne c] at hst; exact hst
  refine q st l _ (fun b o e => ?_) hst2 hl0 ⟨ns, 0, 0, 0, 1, upd_same, by rw [upd_ne nls, upd_same], by decide, by decide, by omega, hl, nls⟩
  rw [upd_ne (ne_of_none e hst2), upd_ne (ne_of_none e hl0), upd_ne (ne_of_none e hp)]
  exact e
theorem ok_names (T : Tops w K mg) (G__law_draw : FnOk P w K mg base CX0 1 T.a__law_draw T.d__law_draw ["_law_state_here", "_law_many_here"] spDraw) :
    FnOk P w K mg base CX0 2 T.a__law_names T.d__law_names ["_law_state_here", "_law_many_here"] spNames := by
  refine T.F__law_names.ok sc_law_names (fun vs H Q E h => ?_) (fun cdv A outer s H vs Q E hr h => ?_)
  · obtain ⟨st, sc, m, rfl, _⟩ := h
    rfl
  obtain ⟨st, sc, n, rfl, hn0, hn1, hst, q⟩ := h
  refine ⟨_, (pss_cons (ps_set (i := 2) sc_law_names.nd rfl (Or.inl rfl) (pe_call G__law_draw (hr.mono (by omega)) rfl T.m__law_draw T.F__law_draw.kp T.b__law_draw .nil pass0 (pa_cons (pv 0) (pa_cons pe_int pa_nil))))
    (pss_cons (ps_set (i := 3) sc_law_names.nd rfl (Or.inl rfl) (pe_call G__law_draw (hr.mono (by omega)) rfl T.m__law_draw T.F__law_draw.kp T.b__law_draw .nil pass0 (pa_cons (pv 0) (pa_cons pe_int pa_nil))))
    (pss_cons (ps_set (i := 4) sc_law_names.nd rfl (Or.inl rfl) (pe_call G__law_draw (hr.mono (by omega)) rfl T.m__law_draw T.F__law_draw.kp T.b__law_draw .nil pass0 (pa_cons (pv 0) (pa_cons pe_int pa_nil))))
    (pss_cons (ps_set (i := 5) sc_law_names.nd rfl (Or.inl rfl) (pe_call G__law_draw (hr.mono (by omega)) rfl T.m__law_draw T.F__law_draw.kp T.b__law_draw .nil pass0 (pa_cons (pv 0) (pa_cons (pe_op op_pow pe_int pe_int) pa_nil))))
    (pss_cons (ps_set (i := 6) sc_law_names.nd rfl (Or.inl rfl) pe_str)
    (pss_cons (ps_set (i := 7) sc_law_names.nd rfl (Or.inl rfl) (pe_lst pa_nil))
    (pss_cons (ps_for PassesOwn.never rfl (pi_range1 rfl T.z_range (pa_cons (pv 1) pa_nil)) (pg_name (i := 8) sc_law_names.nd rfl (Or.inl rfl)) (pss_cons (ps_set (i := 9) sc_law_names.nd rfl (Or.inl rfl) (pv 5))
    (pss_cons (ps_set (i := 10) sc_law_names.nd rfl (Or.inl rfl) (pe_op op_add (pv 2) pe_int))
    (C8.pss_cut (ps_if (pt_cmpR op_eq (pv 4) pe_int (nomark _)) (pss_cons (ps_set (i := 9) sc_law_names.nd rfl (Or.inl rfl) (pe_call G__law_draw (hr.mono (by omega)) rfl T.m__law_draw T.F__law_draw.kp T.b__law_draw .nil pass0 (pa_cons (pv 0) (pa_cons (pe_op op_pow pe_int pe_int) pa_nil))))
    (pss_one (ps_set (i := 10) sc_law_names.nd rfl (Or.inl rfl) (pe_op op_add (pe_op op_add (pv 2) pe_int) (pe_call G__law_draw (hr.mono (by omega)) rfl T.m__law_draw T.F__law_draw.kp T.b__law_draw .nil pass0 (pa_cons (pv 0) (pa_cons (pe_op op_sub pe_int (pv 2)) pa_nil))))))) pss_nil)
    (pss_cons (ps_set (i := 11) sc_law_names.nd rfl (Or.inl rfl) pe_str)
    (pss_cons (ps_for PassesOwn.never rfl (pi_range1 rfl T.z_range (pa_cons (pv 10) pa_nil)) (pg_name (i := 12) sc_law_names.nd rfl (Or.inl rfl)) (pss_one (ps_if (pt_cmpR op_eq (pv 12) (pv 2) (nomark _)) (pss_one (ps_set (i := 11) sc_law_names.nd rfl (Or.inl rfl) (pe_op op_add_str (pv 11) (pe_ix ix_str (pv 6) (pe_op op_modN (pe_callTy call_int1 rfl T.z_int (by decide +kernel) (pa_cons (pe_op op_add (pv 3) (pe_op op_mul pe_int (pv 8))) pa_nil)) pe_int) (fun _ _ => rfl))))) (pss_cons (ps_set (i := 11) sc_law_names.nd rfl (Or.inl rfl) (pe_op op_add_str (pv 11) (pe_ix ix_str (pv 6) (pe_op op_modN (pe_callTy call_int1 rfl T.z_int (by decide +kernel) (pa_cons (pv 9) pa_nil)) pe_int) (fun _ _ => rfl))))
    (pss_one (ps_set (i := 9) sc_law_names.nd rfl (Or.inl rfl) (pe_op op_fdivW (pv 9) pe_int)))))))
    (pss_one (ps_expr (pe_bm PySem.F.plainAttrs_list PySem.F.slot_list_append PySem.F.type_list_append mt_append (pv 7) (pa_cons (pv 11) pa_nil))))))))))
    (pss_one (ps_ret (pv 7)))))))))), ?_⟩
  refine ⟨_, rfl, st, sc, 8, rfl, by decide, by decide, hst, fun pl H1 pl0 pl1 k1 s1 _ => ?_⟩
  refine ⟨_, rfl, st, sc, 26, rfl, by decide, by decide, s1, fun fi H2 fi0 fi1 k2 s2 _ => ?_⟩
  refine ⟨_, rfl, st, sc, 2, rfl, by decide, by decide, s2, fun sh H3 sh0 sh1 k3 s3 _ => ?_⟩
  refine ⟨_, rfl, _, _, rfl, rfl, ⟨by decide, by decide, by decide⟩, st, sc, _, rfl, by decide, by decide, s3, fun ba H4 ba0 ba1 k4 s4 _ => ?_⟩
  have k04 : Keep st H H4 := k1.trans (k2.trans (k3.trans k4))
  refine ⟨Nat.zero_le _, fun p hp => ?_⟩
  obtain ⟨nps, npc⟩ := s4.ne hp
  have hp0 : H p = none := k04.free nps hp
  refine ⟨_, rfl, n, rfl, by omega, by omega, for_range (lo := 0) (n := n.toNat) (fun i σ H' => ∃ (v8 v9 v10 v11 v12 : Option V) (ns : List Str),
    σ = [some (.ref st), some (.int n), some (.int pl), some (.int fi), some (.int sh), some (.int ba), some (.str abc), some (.ref p), v8, v9, v10, v11, v12] ∧
    Keep st H H' ∧ StOk H' st sc ∧ H' p = some (.lst (ns.map V.str)) ∧ ns.length = i ∧ NamesAt pl.toNat fi.toNat ns)
    ⟨none, none, none, none, none, [], rfl, k04.trans (Keep.new hp), s4.new hp, upd_same, rfl, ⟨fun z h => (List.not_mem_nil h).elim, fun j z h => by simp at h⟩⟩ ?_ ?_⟩
  · rintro i σ H' hi ⟨v8, v9, v10, v11, v12, ns, rfl, kH, sH, hpH, hlen, hN⟩
    refine ⟨_, rfl, _, rfl, _, _, rfl, rfl, ?_⟩
    refine ⟨fun σ' H'' => ∃ (o sz : Int), σ' = [some (.ref st), some (.int n), some (.int pl), some (.int fi), some (.int sh), some (.int ba), some (.str abc), some (.ref p), some (.int (0 + i)), some (.int o), some (.int sz), v11, v12] ∧
      Keep st H H'' ∧ StOk H'' st sc ∧ H'' p = some (.lst (ns.map V.str)) ∧ 0 ≤ o ∧ pl + 1 ≤ sz ∧ sz ≤ 8, ?_, ?_⟩
    · refine ⟨_, rfl, rfl, _, rfl, ?_⟩
      refine ite2 (fun _ => ?_) (fun _ => ⟨ba, pl + 1, rfl, kH, sH, hpH, ba0, by omega, by omega⟩)
      refine ⟨_, rfl, _, _, rfl, rfl, ⟨by decide, by decide, by decide⟩, st, sc, _, rfl, by decide, by decide, sH, fun o H5 o0 o1 k5 s5 _ => ?_⟩
      refine ⟨_, rfl, _, _, rfl, rfl, _, rfl, _, rfl, _, _, rfl, rfl, st, sc, _, rfl, by omega, by omega, s5, fun sz H6 z0 z1 k6 s6 _ => ⟨_, _, rfl, rfl, ?_⟩⟩
      exact ⟨o, _, rfl, kH.trans (k5.trans k6), s6, k6 _ _ nps (k5 _ _ nps hpH), o0, by omega, by omega⟩
    · rintro σ' H'' ⟨o, sz, rfl, kJ, sJ, hpJ, o0, sz0, sz1⟩
      -- name = ''; for at in range(size)
      refine ⟨_, rfl, sz, rfl, by omega, by omega, for_range (lo := 0) (n := sz.toNat) (fun j σ H5 => ∃ (o : Int) (z : Str) (v12 : Option V),
        σ = [some (.ref st), some (.int n), some (.int pl), some (.int fi), some (.int sh), some (.int ba), some (.str abc), some (.ref p), some (.int (0 + i)), some (.int o), some (.int sz), some (.str z), v12] ∧
        H5 = H'' ∧ 0 ≤ o ∧ z.length = j ∧ z.cps.toList.all lowc = true ∧ (pl.toNat < j → z.cps[pl.toNat]? = some (letK fi.toNat i)))
        ⟨o, "", v12, rfl, rfl, o0, by decide +kernel, by decide +kernel, fun h => by omega⟩ ?_ ?_⟩
      · rintro j σ H5 hj ⟨o, z, v12, rfl, rfl, o0, zl, za, zp⟩
        have zsz : z.length + 1 ≤ sizeLine := Nat.le_of_lt (small1000 (by omega))
        refine ⟨_, rfl, _, rfl, rfl, _, rfl, ?_⟩
        refine ite2 (fun c => ?_) (fun c => ?_)
        · have c' : (V.int (0 + (j : Int))) = V.int pl := of_decide_eq_true c
          have cj : (0 : Int) + (j : Int) = pl := by injection c'
          have m0 : 0 ≤ Int.fmod (fi + 7 * (0 + (i : Int))) 26 ∧ Int.fmod (fi + 7 * (0 + (i : Int))) 26 < 26 := by
            rw [Int.fmod_eq_emod_of_nonneg _ (by decide)]
            exact ⟨Int.emod_nonneg _ (by decide), Int.emod_lt_of_pos _ (by decide)⟩
          have mk : (Int.fmod (fi + 7 * (0 + (i : Int))) 26).toNat = (fi.toNat + 7 * i) % 26 := by
            rw [Int.fmod_eq_emod_of_nonneg _ (by decide)]
            omega
          refine ⟨_, rfl, _, rfl, _, rfl, _, rfl, _, _, rfl, rfl, .inl ⟨by decide, by decide⟩, _, _, rfl, rfl, .inl ⟨_, rfl, _, _, rfl, rfl, (by show (26 : Int) ≠ 0; decide), abc, _, _, rfl, rfl, abc_len, abc_at m0.1 m0.2, _, _, rfl, rfl, zsz, ?_⟩⟩
          refine ⟨o, _, _, rfl, rfl, o0, by rw [add_len, zl], add_low za (low_of m0.1 m0.2), fun _ => ?_⟩
          have hz : z.length = pl.toNat := by omega
          have e := add_new z (97 + (Int.fmod (fi + 7 * (0 + (i : Int))) 26).toNat)
          rw [hz, mk] at e
          unfold letK
          rw [mk]
          exact e
        · have m0 : 0 ≤ Int.fmod o 26 ∧ Int.fmod o 26 < 26 := by
            rw [Int.fmod_eq_emod_of_nonneg _ (by decide)]
            exact ⟨Int.emod_nonneg _ (by decide), Int.emod_lt_of_pos _ (by decide)⟩
          refine ⟨_, rfl, _, rfl, _, rfl, .inl ⟨_, rfl, _, _, rfl, rfl, (by show (26 : Int) ≠ 0; decide), abc, _, _, rfl, rfl, abc_len, abc_at m0.1 m0.2, _, _, rfl, rfl, zsz, ?_⟩⟩
          refine ⟨_, rfl, _, _, rfl, rfl, wide_div (b := 64) (by decide) (by decide) (by decide) (by decide), ?_⟩
          refine ⟨o / 26, _, _, rfl, rfl, Int.ediv_nonneg o0 (by decide), by rw [add_len, zl], add_low za (low_of m0.1 m0.2), fun hlt => ?_⟩
          have hne : ¬ (V.int (0 + (j : Int)) = V.int pl) := of_decide_eq_false (Bool.eq_false_iff.mpr c)
          have hne2 : ¬ ((0 : Int) + (j : Int) = pl) := fun e => hne (by rw [e])
          exact add_old (zp (by omega))
      · rintro σ H5 ⟨o, z, v12, rfl, rfl, o0, zl, za, zp⟩
        have hns : (ns.map V.str).length < sizeLine := small1000 (by rw [List.length_map]; omega)
        refine ⟨_, rfl, .inl ⟨rfl, _, SqL.of hpJ⟩, _, rfl, p, _, _, rfl, rfl, hpJ, hns, ?_⟩
        have hnm : isNm z = true := by
          unfold isNm
          rw [za, zl]
          simp
          omega
        refine ⟨_, _, _, _, _, ns ++ [z], rfl, kJ.own hp0, sJ.other nps npc, ?_, ?_, ?_⟩
        · rw [upd_same, List.map_append]; rfl
        · rw [List.length_append, hlen]; rfl
        · exact hN.snoc hnm (by rw [hlen]; exact zp (by omega))
  · rintro σ H' ⟨v8, v9, v10, v11, v12, ns, rfl, kH, sH, hpH, hlen, hN⟩
    refine ⟨_, rfl, q p ns H' kH sH hp0 nps npc hpH (by omega) ⟨hN.good, hN.nodup (by omega)⟩⟩
end
end K80
namespace K80
open PySem PySem.Spec PyProof.Rows L2 Td
/-- all rows, counted at all depths; n: how deep it may still go -/
def spMany (K : PySem.W.Frag) (n : Nat) : Sp := fun vs H Q _ => ∃ (v : V) (rs : List Td.Row) (S : Sc) (dep : Nat),
  vs = [v] ∧ Dp K H v (.tuple (rowsD rs)) ∧ okRs S dep rs ∧ dep ≤ 4 ∧ 5 ≤ dep + n ∧ Q (.int (cnts rs : Nat)) H
section
variable {P : Program} {w : World} {K : PySem.W.Frag} {mg : Str → Option Value} {base : Heap}
theorem ok_many1 (T : Tops w K mg) {n : Nat} (G__law_many : FnOk P w K mg base CX0 n T.a__law_many T.d__law_many ["_law_rows_here"] (spMany K n)) :
    FnOk P w K mg base CX0 (n + 1) T.a__law_many T.d__law_many ["_law_rows_here"] (spMany K (n + 1)) := by
  refine T.F__law_many.ok sc_law_many (fun vs H Q E h => ?_) (fun cdv A outer s H vs Q E hr h => ?_)
  · obtain ⟨v, rs, S, dep, rfl, _⟩ := h
    rfl
  obtain ⟨v, rs, S, dep, rfl, hD, ok, hdep, hn, q⟩ := h
  obtain ⟨a, xs, rfl, hS, hl, hx⟩ := rows_at hD
  refine ⟨_, (pss_cons (ps_set (i := 1) sc_law_many.nd rfl (Or.inl rfl) (pe_callB call_len rfl T.z_len PySem.boot_len (pa_cons (pv 0) pa_nil)))
    (pss_cons (ps_for PassesOwn.never rfl (pi_tup (pv 0)) (pg_name (i := 2) sc_law_many.nd rfl (Or.inl rfl)) (pss_one (ps_if (pt_cmpR op_eq (pe_ix ix_tup (pv 2) pe_int (fun _ _ => rfl)) pe_str (nomark _)) (pss_one (ps_aug (i := 1) sc_law_many.nd rfl (Or.inl rfl) (pe_op op_add (pe_call G__law_many (hr.mono (by omega)) rfl T.m__law_many T.F__law_many.kp T.b__law_many .nil pass0 (pa_cons (pe_ix ix_tup (pv 2) pe_int (fun _ _ => rfl)) pa_nil)) (pe_call G__law_many (hr.mono (by omega)) rfl T.m__law_many T.F__law_many.kp T.b__law_many .nil pass0 (pa_cons (pe_ix ix_tup (pv 2) pe_int (fun _ _ => rfl)) pa_nil))) ip_add)) pss_nil)))
    (pss_one (ps_ret (pv 1))))), ?_⟩
  refine ⟨_, rfl, _, _, rfl, .inr ⟨_, hS, rfl⟩, ?_⟩
  refine ⟨_, rfl, a, rfl, ⟨_, hS⟩, for_tup (K := K) (a := a) (xs := xs) (fun i σ H' => ∃ (v2 : Option V), H' = H ∧
    σ = [some (.ref a), some (.int ((cnts (rs.take i) + (rs.length - i) : Nat) : Int)), v2])
    ⟨none, rfl, ?_⟩ (fun i σ H' _ ⟨_, e, _⟩ => by rw [e]; exact hS) ?_ ?_⟩
  · show [some (V.ref a), some (V.int (xs.length : Nat)), none] = _
    rw [hl]
    simp [cnts]
  · rintro i x σ H' hi ⟨v2, rfl, rfl⟩
    obtain ⟨r, hr2, hDr⟩ := hx i x hi
    have hil : i < rs.length := (List.getElem?_eq_some_iff.mp hr2).1
    have okr := okRs_get ok hr2
    have step := cnts_take hr2
    have hp := cnt_pos r
    cases hite : isIte r with
    | false =>
      obtain ⟨ar, ys, rfl, hSr, h0⟩ := row_at hDr
      refine ⟨_, rfl, ar, _, 0, _, rfl, rfl, hSr, atI_nat (j := 0) h0, rfl, _, rfl, ?_⟩
      refine if_false_of ((tag_if r).trans hite) ⟨some (.ref ar), rfl, ?_⟩
      have hc := cnt_flat hite
      have e : cnts (rs.take i) + (rs.length - i) = cnts (rs.take (i + 1)) + (rs.length - (i + 1)) := by omega
      rw [← e]; rfl
    | true =>
      cases r with
      | ite sl wd y n' =>
        obtain ⟨ar, vy, vn, rfl, hSr, hy, hn'⟩ := ite_at hDr
        unfold okR at okr
        obtain ⟨hd3, _, _, oy, on⟩ := okr
        refine ⟨_, rfl, ar, _, 0, _, rfl, rfl, hSr, rfl, rfl, _, rfl, ?_⟩
        refine if_true_of (by decide +kernel) ?_
        refine ⟨_, rfl, _, rfl, ar, _, 3, _, rfl, rfl, hSr, rfl, vy, y, S, dep + 1, rfl, hy, oy, by omega, by omega, ?_⟩
        refine ⟨_, rfl, ar, _, 4, _, rfl, rfl, hSr, rfl, vn, n', S, dep + 1, rfl, hn', on, by omega, by omega, ?_⟩
        refine ⟨_, _, rfl, rfl, _, _, rfl, rfl, some (.ref ar), rfl, ?_⟩
        have ec : Td.cnt (.ite sl wd y n') = 1 + cnts y + cnts n' := by unfold Td.cnt; rfl
        have e : ((cnts (rs.take i) + (rs.length - i) : Nat) : Int) + ((cnts y : Nat) + (cnts n' : Nat)) = ((cnts (rs.take (i + 1)) + (rs.length - (i + 1)) : Nat) : Int) := by omega
        rw [← e]; rfl
      | _ => cases hite
  · rintro σ H' ⟨v2, rfl, rfl⟩
    refine ⟨_, rfl, ?_⟩
    rw [hl, List.take_length, Nat.sub_self, Nat.add_zero]
    exact q
theorem ok_many (T : Tops w K mg) : ∀ n, FnOk P w K mg base CX0 n T.a__law_many T.d__law_many ["_law_rows_here"] (spMany K n)
  | 0 => by
    have no : ∀ vs H Q E, ¬ spMany K 0 vs H Q E := fun vs H Q E h => by
      obtain ⟨_, _, _, dep, _, _, _, h1, h2, _⟩ := h
      omega
    exact ⟨fun vs H Q E h => absurd h (no vs H Q E), fun A outer s H args us vs Q E _ _ _ _ h => absurd h (no vs H Q E)⟩
  | n + 1 => ok_many1 T (ok_many T n)
end
end K80
namespace K80
open PySem PySem.Spec PyProof.Rows L2 Td
/-- the dict that says what a body may be, at d -/
structure ShapeAt (K : PySem.W.Frag) (st : Addr) (H : Hp) (d : Addr) (S : Sc) (slots : List Str) : Prop where
  ex : ∃ (kvs : List (Key × V)) (aw asl ac aso : Addr) (pk wr : Bool),
    H d = some (.dK kvs) ∧ kvs.length ≤ 100 ∧
    valV kvs (.inr "words") = some (.ref aw) ∧ SqT K H aw (S.words.map V.str) ∧ aw ≠ st ∧
    valV kvs (.inr "slots") = some (.ref asl) ∧ SqL K H asl (slots.map V.str) ∧ asl ≠ st ∧
    valV kvs (.inr "cells") = some (.ref ac) ∧ SqL K H ac (S.readable.map V.str) ∧ ac ≠ st ∧
    valV kvs (.inr "sources") = some (.ref aso) ∧ SqT K H aso (S.sources.map V.str) ∧ aso ≠ st ∧
    valV kvs (.inr "kind") = some (.str (if S.eff then "effects" else "derived")) ∧
    valV kvs (.inr "peeks") = some (.bl pk) ∧ valV kvs (.inr "writes") = some (.bl wr) ∧ (pk = true → S.eff = true) ∧ (wr = true → S.eff = true)
  ne : d ≠ st
  w0 : S.words ≠ []
  s0 : slots ≠ []
  c0 : S.readable ≠ []
  o0 : S.sources ≠ []
  small : S.words.length ≤ 100 ∧ slots.length ≤ 100 ∧ S.readable.length ≤ 100 ∧ S.sources.length ≤ 100
  good : ∀ z ∈ slots, isNm z = true
section
variable {K : PySem.W.Frag} {H H' : Hp} {st sc d : Addr} {S : Sc} {slots : List Str}
theorem ShapeAt.keep (h : ShapeAt K st H d S slots) (k : Keep st H H') : ShapeAt K st H' d S slots := by
  obtain ⟨kvs, aw, asl, ac, aso, pk, wr, e0, e00, e1, e2, e3, e4, e5, e6, e7, e8, e9, e10, e11, e12, r⟩ := h.ex
  exact ⟨⟨kvs, aw, asl, ac, aso, pk, wr, k _ _ h.ne e0, e00, e1, SqT.keep k e3 e2, e3, e4, SqL.keep k e6 e5, e6, e7, SqL.keep k e9 e8, e9, e10, SqT.keep k e12 e11, e12, r⟩, h.ne, h.w0, h.s0, h.c0, h.o0, h.small, h.good⟩
theorem dget_of {a : Addr} {kvs : List (Key × V)} {z : Str} {v : V} (e : H a = some (.dK kvs)) (h : valV kvs (.inr z) = some v) : DGet H a (.str z) (some v) := by
  rw [← h]; exact DGet.k (k := Sum.inr z) e
/-- an item, drawn -/
theorem pick {xs : List Str} {r : Int} (h0 : 0 ≤ r) (h1 : r < (xs.map V.str).length) : ∃ z ∈ xs, atI (xs.map V.str) r = some (.str z) := by
  rw [List.length_map] at h1
  have hl : r.toNat < xs.length := by omega
  refine ⟨xs[r.toNat], List.getElem_mem hl, ?_⟩
  have : atI (xs.map V.str) ((r.toNat : Nat) : Int) = some (V.str xs[r.toNat]) := atI_nat (by rw [List.getElem?_map, List.getElem?_eq_getElem hl]; rfl)
  rwa [show ((r.toNat : Nat) : Int) = r by omega] at this
def rLen (K : PySem.W.Frag) : List V → Hp → VK → Prop := fun xs H Q => ∃ x n, xs = [x] ∧ LenV K x H n ∧ Q (.int n) H
def tPick (K : PySem.W.Frag) (r : R2) (key : Str) : TE := tOp r (tDGet (tVar 1) (tC (.str key)))
  (tCall spDraw [] E0 (tCons (tVar 0) (tCons (tCB (rLen K) (tCons (tDGet (tVar 1) (tC (.str key))) tNil)) tNil)))
theorem pick_l {σ : L2.St} {Q : VK} {key : Str} {kvs : List (Key × V)} {a : Addr} {xs : List Str} (h0 : σ[0]? = some (some (.ref st))) (h1 : σ[1]? = some (some (.ref d)))
    (hd : H d = some (.dK kvs)) (nd : d ≠ st) (hv : valV kvs (.inr key) = some (.ref a)) (hS : SqL K H a (xs.map V.str)) (na : a ≠ st) (hx : xs ≠ []) (hl : xs.length ≤ 100) (ok : StOk H st sc)
    (q : ∀ z ∈ xs, ∀ H', Keep st H H' → StOk H' st sc → Q (.str z) H') : tPick K (rIxL K) key σ H Q := by
  have hp : 0 < xs.length := List.length_pos_iff.mpr hx
  refine ⟨_, h1, d, _, rfl, dget_of hd hv, _, h0, _, h1, d, _, rfl, dget_of hd hv, _, (xs.map V.str).length, rfl, .inl ⟨_, hS, rfl⟩, st, sc, _, rfl, ?_, ?_, ok, fun r H' r0 r1 k o _ => ?_⟩
  · rw [List.length_map]; omega
  · rw [List.length_map]; omega
  · obtain ⟨z, hz, e⟩ := pick r0 r1
    exact ⟨a, _, r, _, rfl, rfl, SqL.keep k na hS, e, q z hz H' k o⟩
theorem pick_t {σ : L2.St} {Q : VK} {key : Str} {kvs : List (Key × V)} {a : Addr} {xs : List Str} (h0 : σ[0]? = some (some (.ref st))) (h1 : σ[1]? = some (some (.ref d)))
    (hd : H d = some (.dK kvs)) (nd : d ≠ st) (hv : valV kvs (.inr key) = some (.ref a)) (hS : SqT K H a (xs.map V.str)) (na : a ≠ st) (hx : xs ≠ []) (hl : xs.length ≤ 100) (ok : StOk H st sc)
    (q : ∀ z ∈ xs, ∀ H', Keep st H H' → StOk H' st sc → Q (.str z) H') : tPick K (rIxT K) key σ H Q := by
  have hp : 0 < xs.length := List.length_pos_iff.mpr hx
  refine ⟨_, h1, d, _, rfl, dget_of hd hv, _, h0, _, h1, d, _, rfl, dget_of hd hv, _, (xs.map V.str).length, rfl, .inr ⟨_, hS, rfl⟩, st, sc, _, rfl, ?_, ?_, ok, fun r H' r0 r1 k o _ => ?_⟩
  · rw [List.length_map]; omega
  · rw [List.length_map]; omega
  · obtain ⟨z, hz, e⟩ := pick r0 r1
    exact ⟨a, _, r, _, rfl, rfl, SqT.keep k na hS, e, q z hz H' k o⟩
end
def spRow (K : PySem.W.Frag) : Sp := fun vs H Q _ => ∃ (st sc d : Addr) (S : Sc) (slots : List Str), vs = [.ref st, .ref d] ∧ StOk H st sc ∧ ShapeAt K st H d S slots ∧
  ∀ (v : V) (r : Td.Row) (H' : Hp), Keep st H H' → StOk H' st sc → (∀ dep, okR S dep r) → isIte r = false → Tn K H' v (rowD r) → Q v H'
section
variable {P : Program} {w : World} {K : PySem.W.Frag} {mg : Str → Option Value} {base : Heap}
theorem ok_row (T : Tops w K mg) (G__law_draw : FnOk P w K mg base CX0 1 T.a__law_draw T.d__law_draw ["_law_state_here", "_law_many_here"] spDraw) :
    FnOk P w K mg base CX0 2 T.a__law_row T.d__law_row ["_law_state_here", "_law_shape"] (spRow K) := by
  refine T.F__law_row.ok sc_law_row (fun vs H Q E h => ?_) (fun cdv A outer s H vs Q E hr h => ?_)
  · obtain ⟨st, sc, d, S, slots, rfl, _⟩ := h
    rfl
  obtain ⟨st, sc, d, S, slots, rfl, ok, sh, q⟩ := h
  refine ⟨_, (pss_cons (ps_set (i := 2) sc_law_row.nd rfl (Or.inl rfl) (pe_call G__law_draw (hr.mono (by omega)) rfl T.m__law_draw T.F__law_draw.kp T.b__law_draw .nil pass0 (pa_cons (pv 0) (pa_cons pe_int pa_nil))))
    (pss_cons (ps_set (i := 3) sc_law_row.nd rfl (Or.inl rfl) (pe_ix ix_list (pe_dget (hu_of hr) (pv 1) pe_str (fun _ _ => rfl)) (pe_call G__law_draw (hr.mono (by omega)) rfl T.m__law_draw T.F__law_draw.kp T.b__law_draw .nil pass0 (pa_cons (pv 0) (pa_cons (pe_callB call_len rfl T.z_len PySem.boot_len (pa_cons (pe_dget (hu_of hr) (pv 1) pe_str (fun _ _ => rfl)) pa_nil)) pa_nil))) (fun _ _ => rfl)))
    (pss_cons (ps_if (pt_cmpR op_eq (pv 2) pe_int (nomark _)) (pss_one (ps_ret (pe_tup (pa_cons pe_str (pa_cons (pv 3) (pa_cons (pe_ix ix_tup (pe_dget (hu_of hr) (pv 1) pe_str (fun _ _ => rfl)) (pe_call G__law_draw (hr.mono (by omega)) rfl T.m__law_draw T.F__law_draw.kp T.b__law_draw .nil pass0 (pa_cons (pv 0) (pa_cons (pe_callB call_len rfl T.z_len PySem.boot_len (pa_cons (pe_dget (hu_of hr) (pv 1) pe_str (fun _ _ => rfl)) pa_nil)) pa_nil))) (fun _ _ => rfl)) pa_nil)))))) pss_nil)
    (C8.pss_cut (ps_if (PW.pt (pw_and (pt_cmpR op_eq (pv 2) pe_int (nomark _)) (pw_and1 (pt_cmpR op_eq (pe_dget (hu_of hr) (pv 1) pe_str (fun _ _ => rfl)) pe_str (nomark _))))) (pss_one (ps_ret (pe_tup (pa_cons pe_str (pa_cons (pv 3) pa_nil))))) pss_nil)
    (pss_cons (ps_if (pt_cmpR op_eq (pv 2) pe_int (nomark _)) (pss_one (ps_ret (pe_tup (pa_cons pe_str (pa_cons (pv 3) pa_nil))))) pss_nil)
    (C8.pss_cut (ps_if (PW.pt (pw_and (pt_cmpR op_eq (pv 2) pe_int (nomark _)) (pw_and1 (pt_val (pe_dget (hu_of hr) (pv 1) pe_str (fun _ _ => rfl)))))) (pss_one (ps_ret (pe_tup (pa_cons pe_str (pa_cons (pe_ix ix_tup (pe_dget (hu_of hr) (pv 1) pe_str (fun _ _ => rfl)) (pe_call G__law_draw (hr.mono (by omega)) rfl T.m__law_draw T.F__law_draw.kp T.b__law_draw .nil pass0 (pa_cons (pv 0) (pa_cons (pe_callB call_len rfl T.z_len PySem.boot_len (pa_cons (pe_dget (hu_of hr) (pv 1) pe_str (fun _ _ => rfl)) pa_nil)) pa_nil))) (fun _ _ => rfl)) (pa_cons (pv 3) pa_nil)))))) pss_nil)
    (pss_cons (ps_set (i := 4) sc_law_row.nd rfl (Or.inl rfl) (pe_ix ix_list (pe_dget (hu_of hr) (pv 1) pe_str (fun _ _ => rfl)) (pe_call G__law_draw (hr.mono (by omega)) rfl T.m__law_draw T.F__law_draw.kp T.b__law_draw .nil pass0 (pa_cons (pv 0) (pa_cons (pe_callB call_len rfl T.z_len PySem.boot_len (pa_cons (pe_dget (hu_of hr) (pv 1) pe_str (fun _ _ => rfl)) pa_nil)) pa_nil))) (fun _ _ => rfl)))
    (C8.pss_cut (ps_if (PW.pt (pw_and (pt_cmpR op_eq (pv 2) pe_int (nomark _)) (pw_and1 (pt_val (pe_dget (hu_of hr) (pv 1) pe_str (fun _ _ => rfl)))))) (pss_one (ps_ret (pe_tup (pa_cons pe_str (pa_cons (pv 4) (pa_cons (pv 3) pa_nil)))))) pss_nil)
    (pss_one (ps_ret (pe_tup (pa_cons pe_str (pa_cons (pv 4) (pa_cons (pv 3) pa_nil)))))))))))))), ?_⟩
  -- kind, slot
  refine ⟨_, rfl, st, sc, 6, rfl, by decide, by decide, ok, fun kd H1 kd0 kd1 k1 o1 _ => ?_⟩
  have sh1 := sh.keep k1
  obtain ⟨kvs, aw, asl, ac, aso, pk, wr, e0, e00, e1, e2, e3, e4, e5, e6, e7, e8, e9, e10, e11, e12, e13, e14, e15, e16, e17⟩ := sh1.ex
  refine pick_l (key := "slots") rfl rfl e0 sh1.ne e4 e5 e6 sh1.s0 sh1.small.2.1 o1 fun sl hsl H2 k2 o2 => ?_
  have hsl' := sh.good sl hsl
  have k12 := k1.trans k2
  have sh2 := sh1.keep k2
  obtain ⟨kvs, aw, asl, ac, aso, pk, wr, e0, e00, e1, e2, e3, e4, e5, e6, e7, e8, e9, e10, e11, e12, e13, e14, e15, e16, e17⟩ := sh2.ex
  have give : ∀ (zs : List Str) (r : Td.Row), zs.length ≤ 5 → rowD r = .tuple (zs.map PyData.str) → (∀ dep, okR S dep r) → isIte r = false →
      ∀ H3, Keep st H H3 → StOk H3 st sc → (zs.map V.str).length ≤ sizeLine ∧ ∀ p, H3 p = none → Q (.ref p) (upd H3 p (.tup (zs.map V.str))) := fun zs r hz hr ho hi H3 k3 o3 =>
    ⟨Nat.le_of_lt (small1000 (by rw [List.length_map]; omega)), fun p hp => q _ r _ (k3.trans (Keep.new hp)) (o3.new hp) ho hi (by rw [hr]; exact Tn.new (TnAll.strs zs) hp)⟩
  -- kind == 0: put
  refine ⟨_, rfl, rfl, _, rfl, ?_⟩
  refine ite2 (fun _ => ?_) (fun _ => ?_)
  · refine ⟨_, rfl, pick_t (key := "words") rfl rfl e0 sh2.ne e1 e2 e3 sh2.w0 sh2.small.1 o2 fun wd hwd H3 k3 o3 => ?_⟩
    exact give ["put", sl, wd] (.put sl wd) (Nat.le_of_ble_eq_true rfl) rfl (fun dep => by unfold okR; exact ⟨hsl', hwd⟩) rfl H3 (k12.trans k3) o3
  -- kind == 1 and shape["kind"] == "derived": give
  refine ⟨fun σ' H' => H' = H2 ∧ σ' = [some (.ref st), some (.ref d), some (.int kd), some (.str sl), none] ∧ (kd = 1 → S.eff = true), ?_, ?_⟩
  · refine ⟨_, rfl, rfl, _, rfl, ?_⟩
    refine ite2 (fun c => ?_) (fun c => ?_)
    · refine ⟨_, rfl, d, _, rfl, dget_of e0 e13, rfl, _, rfl, ?_⟩
      cases hE : S.eff with
      | false =>
        refine if_true_of (by rw [if_neg Bool.false_ne_true]; decide +kernel) ?_
        exact ⟨_, rfl, give ["give", sl] (.give sl) (Nat.le_of_ble_eq_true rfl) rfl (fun dep => by unfold okR; exact ⟨hE, hsl'⟩) rfl H2 k12 o2⟩
      | true =>
        refine if_false_of (by rw [if_pos rfl]; decide +kernel) ?_
        exact ⟨rfl, rfl, fun _ => rfl⟩
    · refine iteF ⟨rfl, rfl, fun e => absurd ?_ c⟩
      rw [e]; decide +kernel
  rintro σ' H' ⟨rfl, rfl, hk1⟩
  -- kind == 1: say
  refine ⟨_, rfl, rfl, _, rfl, ?_⟩
  refine ite2 (fun c => ?_) (fun _ => ?_)
  · have hk : kd = 1 := by
      have := of_decide_eq_true c
      injection this
    exact ⟨_, rfl, give ["say", sl] (.say sl) (Nat.le_of_ble_eq_true rfl) rfl (fun dep => by unfold okR; exact ⟨hk1 hk, hsl'⟩) rfl H' k12 o2⟩
  -- kind == 2 and shape["writes"]
  refine ⟨fun σ' H'' => H'' = H' ∧ σ' = [some (.ref st), some (.ref d), some (.int kd), some (.str sl), none], ?_, ?_⟩
  · refine ⟨_, rfl, rfl, _, rfl, ?_⟩
    refine ite2 (fun _ => ?_) (fun _ => iteF ⟨rfl, rfl⟩)
    refine ⟨_, rfl, d, _, rfl, dget_of e0 e15, _, rfl, ?_⟩
    refine ite2 (fun hw => ?_) (fun _ => ⟨rfl, rfl⟩)
    refine pick_t (key := "sources") rfl rfl e0 sh2.ne e10 e11 e12 sh2.o0 sh2.small.2.2.2 o2 fun so hso H3 k3 o3 => ⟨_, rfl, ?_⟩
    exact give ["write", so, sl] (.wr so sl) (Nat.le_of_ble_eq_true rfl) rfl (fun dep => by unfold okR; exact ⟨e17 hw, hso, hsl'⟩) rfl H3 (k12.trans k3) o3
  rintro σ' H'' ⟨rfl, rfl⟩
  -- cell
  refine pick_l (key := "cells") rfl rfl e0 sh2.ne e7 e8 e9 sh2.c0 sh2.small.2.2.1 o2 fun ce hce H3 k3 o3 => ?_
  have sh3 := sh2.keep k3
  obtain ⟨kvs3, aw3, asl3, ac3, aso3, pk3, wr3, f0, f00, f1, f2, f3, f4, f5, f6, f7, f8, f9, f10, f11, f12, f13, f14, f15, f16, f17⟩ := sh3.ex
  refine ⟨fun σ' H4 => H4 = H3 ∧ σ' = [some (.ref st), some (.ref d), some (.int kd), some (.str sl), some (.str ce)], ?_, ?_⟩
  · refine ⟨_, rfl, rfl, _, rfl, ?_⟩
    refine ite2 (fun _ => ?_) (fun _ => iteF ⟨rfl, rfl⟩)
    refine ⟨_, rfl, d, _, rfl, dget_of f0 f14, _, rfl, ?_⟩
    refine ite2 (fun hp => ?_) (fun _ => ⟨rfl, rfl⟩)
    exact ⟨_, rfl, _, rfl, give ["peek", ce, sl] (.rd true ce sl) (Nat.le_of_ble_eq_true rfl) rfl (fun dep => by unfold okR; exact ⟨fun _ => f16 hp, hce, hsl'⟩) rfl H3 (k12.trans k3) o3⟩
  rintro σ' H4 ⟨rfl, rfl⟩
  exact ⟨_, rfl, _, rfl, give ["read", ce, sl] (.rd false ce sl) (Nat.le_of_ble_eq_true rfl) rfl (fun dep => by unfold okR; exact ⟨(fun h => nomatch h), hce, hsl'⟩) rfl H4 (k12.trans k3) o3⟩
end
end K80
namespace K80
open PySem PySem.Spec PyProof.Rows L2 Td
def spRows (K : PySem.W.Frag) (n : Nat) : Sp := fun vs H Q _ => ∃ (st sc d : Addr) (S : Sc) (slots : List Str) (dep : Nat) (room : Int),
  vs = [.ref st, .ref d, .int (dep : Nat), .int room] ∧ StOk H st sc ∧ ShapeAt K st H d S slots ∧ dep ≤ 4 ∧ 6 ≤ dep + n ∧ 0 ≤ room ∧ room ≤ 100 ∧
  ∀ (v : V) (rs : List Td.Row) (H' : Hp), Keep st H H' → StOk H' st sc → okRs S dep rs → (cnts rs : Int) ≤ room → Tn K H' v (.tuple (rowsD rs)) → Q v H'
theorem cnts_one (r : Td.Row) : cnts [r] = Td.cnt r := by simp [cnts]
theorem rowsD_one (r : Td.Row) : rowsD [r] = [rowD r] := by simp [rowsD]
theorem cnts_len : ∀ rs : List Td.Row, rs.length ≤ cnts rs
  | [] => Nat.zero_le _
  | r :: rs => by
    have := cnts_len rs
    have := cnt_pos r
    simp only [cnts, List.length_cons]
    omega
section
variable {P : Program} {w : World} {K : PySem.W.Frag} {mg : Str → Option Value} {base : Heap}
theorem ok_rows1 (T : Tops w K mg) {n : Nat} (hn5 : 5 ≤ n)
    (G__law_draw : FnOk P w K mg base CX0 1 T.a__law_draw T.d__law_draw ["_law_state_here", "_law_many_here"] spDraw)
    (G__law_row : FnOk P w K mg base CX0 2 T.a__law_row T.d__law_row ["_law_state_here", "_law_shape"] (spRow K))
    (G__law_many : FnOk P w K mg base CX0 5 T.a__law_many T.d__law_many ["_law_rows_here"] (spMany K 5))
    (G__law_rows : FnOk P w K mg base CX0 n T.a__law_rows T.d__law_rows ["_law_state_here", "_law_shape", "_law_depth", "_law_room"] (spRows K (n - 5))) :
    FnOk P w K mg base CX0 (n + 1) T.a__law_rows T.d__law_rows ["_law_state_here", "_law_shape", "_law_depth", "_law_room"] (spRows K (n - 5 + 1)) := by
  refine T.F__law_rows.ok sc_law_rows (fun vs H Q E h => ?_) (fun cdv A outer s H vs Q E hr h => ?_)
  · obtain ⟨st, sc, d, S, slots, dep, room, rfl, _⟩ := h
    rfl
  obtain ⟨st, sc, d, S, slots, dep, room, rfl, ok, sh, hdep, hn, hr0, hr1, q⟩ := h
  refine ⟨_, (pss_cons (ps_set (i := 4) sc_law_rows.nd rfl (Or.inl rfl) (pe_lst pa_nil))
    (pss_cons (ps_set (i := 5) sc_law_rows.nd rfl (Or.inl rfl) (pv 3))
    (pss_cons (ps_for PassesOwn.never rfl (pi_range1 rfl T.z_range (pa_cons (pe_op op_add pe_int (pe_call G__law_draw (hr.mono (by omega)) rfl T.m__law_draw T.F__law_draw.kp T.b__law_draw .nil pass0 (pa_cons (pv 0) (pa_cons pe_int pa_nil)))) pa_nil)) (pg_name (i := 6) sc_law_rows.nd rfl (Or.inl rfl)) (pss_one (ps_ifC (PW.pt (pw_and (pt_cmpR op_ge (pv 5) pe_int (nomark _)) (pw_and (pt_cmpR op_lt (pv 2) pe_int (nomark _)) (pw_and1 (pt_cmpR op_eq (pe_call G__law_draw (hr.mono (by omega)) rfl T.m__law_draw T.F__law_draw.kp T.b__law_draw .nil pass0 (pa_cons (pv 0) (pa_cons pe_int pa_nil))) pe_int (nomark _)))))) (pss_cons (ps_set (i := 7) sc_law_rows.nd rfl (Or.inl rfl) (pe_ix ix_list (pe_dget (hu_of hr) (pv 1) pe_str (fun _ _ => rfl)) (pe_call G__law_draw (hr.mono (by omega)) rfl T.m__law_draw T.F__law_draw.kp T.b__law_draw .nil pass0 (pa_cons (pv 0) (pa_cons (pe_callB call_len rfl T.z_len PySem.boot_len (pa_cons (pe_dget (hu_of hr) (pv 1) pe_str (fun _ _ => rfl)) pa_nil)) pa_nil))) (fun _ _ => rfl)))
    (pss_cons (ps_set (i := 8) sc_law_rows.nd rfl (Or.inl rfl) (pe_ix ix_list (pe_dget (hu_of hr) (pv 1) pe_str (fun _ _ => rfl)) (pe_call G__law_draw (hr.mono (by omega)) rfl T.m__law_draw T.F__law_draw.kp T.b__law_draw .nil pass0 (pa_cons (pv 0) (pa_cons (pe_callB call_len rfl T.z_len PySem.boot_len (pa_cons (pe_dget (hu_of hr) (pv 1) pe_str (fun _ _ => rfl)) pa_nil)) pa_nil))) (fun _ _ => rfl)))
    (pss_cons (ps_set (i := 9) sc_law_rows.nd rfl (Or.inl rfl) (pe_ix ix_tup (pe_dget (hu_of hr) (pv 1) pe_str (fun _ _ => rfl)) (pe_call G__law_draw (hr.mono (by omega)) rfl T.m__law_draw T.F__law_draw.kp T.b__law_draw .nil pass0 (pa_cons (pv 0) (pa_cons (pe_callB call_len rfl T.z_len PySem.boot_len (pa_cons (pe_dget (hu_of hr) (pv 1) pe_str (fun _ _ => rfl)) pa_nil)) pa_nil))) (fun _ _ => rfl)))
    (pss_cons (ps_expr (pe_bm PySem.F.plainAttrs_list PySem.F.slot_list_append PySem.F.type_list_append mt_append (pv 4) (pa_cons (pe_tup (pa_cons pe_str (pa_cons (pv 8) (pa_cons (pv 7) pa_nil)))) pa_nil)))
    (pss_cons (ps_set (i := 10) sc_law_rows.nd rfl (Or.inl rfl) (pe_call G__law_rows (hr.mono (by omega)) rfl T.m__law_rows T.F__law_rows.kp T.b__law_rows .nil pass0 (pa_cons (pv 0) (pa_cons (pv 1) (pa_cons (pe_op op_add (pv 2) pe_int) (pa_cons (pe_op op_fdivW (pe_op op_sub (pv 5) pe_int) pe_int) pa_nil))))))
    (pss_cons (ps_set (i := 11) sc_law_rows.nd rfl (Or.inl rfl) (pe_call G__law_rows (hr.mono (by omega)) rfl T.m__law_rows T.F__law_rows.kp T.b__law_rows .nil pass0 (pa_cons (pv 0) (pa_cons (pv 1) (pa_cons (pe_op op_add (pv 2) pe_int) (pa_cons (pe_op op_fdivW (pe_op op_sub (pv 5) pe_int) pe_int) pa_nil))))))
    (pss_cons (ps_expr (pe_bm PySem.F.plainAttrs_list PySem.F.slot_list_append PySem.F.type_list_append mt_append (pv 4) (pa_cons (pe_tup (pa_cons pe_str (pa_cons (pv 7) (pa_cons (pv 9) (pa_cons (pv 10) (pa_cons (pv 11) pa_nil)))))) pa_nil)))
    (pss_one (ps_set (i := 5) sc_law_rows.nd rfl (Or.inl rfl) (pe_op op_sub (pe_op op_sub (pe_op op_sub (pv 5) pe_int) (pe_call G__law_many (hr.mono (by omega)) rfl T.m__law_many T.F__law_many.kp T.b__law_many .nil pass0 (pa_cons (pv 10) pa_nil))) (pe_call G__law_many (hr.mono (by omega)) rfl T.m__law_many T.F__law_many.kp T.b__law_many .nil pass0 (pa_cons (pv 11) pa_nil)))))))))))) (pss_one (ps_if (pt_cmpR op_ge (pv 5) pe_int (nomark _)) (pss_cons (ps_expr (pe_bm PySem.F.plainAttrs_list PySem.F.slot_list_append PySem.F.type_list_append mt_append (pv 4) (pa_cons (pe_call G__law_row (hr.mono (by omega)) rfl T.m__law_row T.F__law_row.kp T.b__law_row .nil pass0 (pa_cons (pv 0) (pa_cons (pv 1) pa_nil))) pa_nil)))
    (pss_one (ps_set (i := 5) sc_law_rows.nd rfl (Or.inl rfl) (pe_op op_sub (pv 5) pe_int)))) pss_nil)))))
    (pss_one (ps_ret (pe_callTy call_tuple_of rfl T.z_tuple (by decide +kernel) (pa_cons (pv 4) pa_nil))))))), ?_⟩
  refine ⟨Nat.zero_le _, fun p hp => ?_⟩
  obtain ⟨nps, npc⟩ := ok.ne hp
  have ok0 : StOk (upd H p (.lst [])) st sc := ok.new hp
  have kp0 : Keep st H (upd H p (.lst [])) := Keep.new hp
  refine ⟨_, rfl, _, rfl, st, sc, 4, rfl, by decide, by decide, ok0, fun tn H1 t0 t1 k1 o1 _ => ⟨_, _, rfl, rfl, _, rfl, by omega, by omega, ?_⟩⟩
  have kH1 : Keep st H H1 := kp0.trans k1
  have hpH1 : H1 p = some (.lst []) := k1 _ _ nps upd_same
  refine for_range (lo := 0) (n := (1 + tn).toNat) (fun i σ H' => ∃ (left : Int) (v6 v7 v8 v9 v10 v11 : Option V) (xs : List V) (rs : List Td.Row),
    σ = [some (.ref st), some (.ref d), some (.int (dep : Nat)), some (.int room), some (.ref p), some (.int left), v6, v7, v8, v9, v10, v11] ∧
    Keep st H H' ∧ StOk H' st sc ∧ H' p = some (.lst xs) ∧ TnAll K H' xs (rowsD rs) ∧ okRs S dep rs ∧ (cnts rs : Int) + left ≤ room ∧ 0 ≤ left)
    ⟨room, none, none, none, none, none, none, [], [], rfl, kH1, o1, hpH1, by unfold rowsD; exact .nil, by unfold okRs; trivial, by simp [cnts], hr0⟩ ?_ ?_
  · rintro i σ H2 hi ⟨left, v6, v7, v8, v9, v10, v11, xs, rs, rfl, kH, oH, hpH, hT, hok, hcnt, hl0⟩
    have hlen : ∀ ys : List V, TnAll K H2 ys (rowsD rs) → ys.length ≤ 100 := fun ys h => by
      have e := h.length
      rw [rowsD_length] at e
      have := cnts_len rs
      omega
    -- append a row's tuple
    have app : ∀ {H3 : Hp} {v : V} {r : Td.Row} {ys : List V} {ts : List Td.Row}, Keep st H H3 → StOk H3 st sc → H3 p = some (.lst ys) → TnAll K H3 ys (rowsD ts) → okRs S dep ts → Tn K H3 v (rowD r) → okR S dep r →
        Keep st H (upd H3 p (.lst (ys ++ [v]))) ∧ StOk (upd H3 p (.lst (ys ++ [v]))) st sc ∧ TnAll K (upd H3 p (.lst (ys ++ [v]))) (ys ++ [v]) (rowsD (ts ++ [r])) ∧ okRs S dep (ts ++ [r]) ∧ cnts (ts ++ [r]) = cnts ts + Td.cnt r ∧ TK H3 (upd H3 p (.lst (ys ++ [v]))) := by
      intro H3 v r ys ts k3 o3 hp3 t3 okt tv okr
      have tk : TK H3 (upd H3 p (.lst (ys ++ [v]))) := TK.upd (by rw [hp3]; trivial)
      refine ⟨k3.own (ok.ne hp |>.1 |> fun _ => hp), o3.other nps npc, ?_, okRs_append okt (okRs_one okr), ?_, tk⟩
      · rw [rowsD_append, rowsD_one]
        exact TnAll.append (TnAll.keep tk t3) (TnAll.one (Tn.keep tk tv))
      · rw [cnts_append, cnts_one]
    have chg : ∀ {H3 : Hp}, StOk H3 st sc → Chg (H3 st) := fun o => by obtain ⟨L, hL⟩ := o.at; rw [hL]; trivial
    refine ⟨fun H3 => Keep st H2 H3 ∧ StOk H3 st sc, ?_, ?_⟩
    · refine ⟨_, rfl, _, _, rfl, rfl, _, rfl, ?_⟩
      refine ite2 (fun c1 => ?_) (fun _ => iteF ⟨Keep.refl _ _, oH⟩)
      have c1' : 2 ≤ left := of_decide_eq_true c1
      refine ⟨_, rfl, _, _, rfl, rfl, _, rfl, ?_⟩
      refine ite2 (fun c2 => ?_) (fun _ => iteF ⟨Keep.refl _ _, oH⟩)
      have c2' : ((dep : Nat) : Int) < 4 := of_decide_eq_true c2
      refine ⟨_, rfl, st, sc, 3, rfl, by decide, by decide, oH, fun x3 H3 x30 x31 k3 o3 _ => ⟨rfl, _, rfl, ?_⟩⟩
      refine ite2 (fun _ => ?_) (fun _ => ⟨k3, o3⟩)
      have sh3 := sh.keep (kH.trans k3)
      obtain ⟨kvs, aw, asl, ac, aso, pk, wr, e0, e00, e1, e2, e3, e4, e5, e6, e7, e8, e9, e10, e11, e12, e13, e14, e15, e16, e17⟩ := sh3.ex
      refine pick_l (key := "slots") rfl rfl e0 sh3.ne e4 e5 e6 sh3.s0 sh3.small.2.1 o3 fun sl hsl H4 k4 o4 => ?_
      have hsl' := sh3.good sl hsl
      have sh4 := sh3.keep k4
      obtain ⟨kvs, aw, asl, ac, aso, pk, wr, e0, e00, e1, e2, e3, e4, e5, e6, e7, e8, e9, e10, e11, e12, e13, e14, e15, e16, e17⟩ := sh4.ex
      refine pick_l (key := "cells") rfl rfl e0 sh4.ne e7 e8 e9 sh4.c0 sh4.small.2.2.1 o4 fun ce hce H5 k5 o5 => ?_
      have sh5 := sh4.keep k5
      obtain ⟨kvs, aw, asl, ac, aso, pk, wr, e0, e00, e1, e2, e3, e4, e5, e6, e7, e8, e9, e10, e11, e12, e13, e14, e15, e16, e17⟩ := sh5.ex
      refine pick_t (key := "words") rfl rfl e0 sh5.ne e1 e2 e3 sh5.w0 sh5.small.1 o5 fun wd hwd H6 k6 o6 => ?_
      have k26 : Keep st H2 H6 := k3.trans (k4.trans (k5.trans k6))
      have hp6 := k26 _ _ nps hpH
      have cst : Chg (H2 st) := by obtain ⟨L, hL⟩ := oH.at; rw [hL]; trivial
      have tk26 : TK H2 H6 := TK.of_keep k26 cst
      have t6 := TnAll.keep tk26 hT
      have hx100 := hlen xs hT
      -- append ("read", cell, slot)
      refine ⟨_, rfl, .inl ⟨rfl, _, SqL.of hp6⟩, _, rfl, _, rfl, by show 3 ≤ sizeLine; decide, fun t1 ht1 => ?_⟩
      have npt : p ≠ t1 := fun e => by rw [e, ht1] at hp6; cases hp6
      have hp7 : upd H6 t1 (.tup [.str "read", .str ce, .str sl]) p = some (.lst xs) := by rw [upd_ne npt]; exact hp6
      refine ⟨p, _, _, rfl, rfl, hp7, small1000 (by omega), ?_⟩
      have k7 : Keep st H (upd H6 t1 (.tup [.str "read", .str ce, .str sl])) := (kH.trans k26).trans (Keep.new ht1)
      obtain ⟨k8, o8, t8, ok8, c8, tk8⟩ := app (r := .rd false ce sl) k7 (o6.new ht1) hp7
        (TnAll.keep (TK.of_same (Same.new ht1 _)) t6) hok (by unfold rowD; exact Tn.new (TnAll.strs ["read", ce, sl]) ht1) (by unfold okR; exact ⟨(fun h => nomatch h), hce, hsl'⟩)
      have h8p : upd (upd H6 t1 (.tup [.str "read", .str ce, .str sl])) p (.lst (xs ++ [.ref t1])) p = some (.lst (xs ++ [.ref t1])) := upd_same
      show tSeq _ _ _ _ (upd (upd H6 t1 (.tup [.str "read", .str ce, .str sl])) p (.lst (xs ++ [.ref t1])))
      generalize upd (upd H6 t1 (.tup [.str "read", .str ce, .str sl])) p (.lst (xs ++ [.ref t1])) = H8 at k8 o8 t8 h8p
      -- yes, no
      refine ⟨_, rfl, _, rfl, _, rfl, _, _, rfl, rfl, _, rfl, _, _, rfl, rfl, _, _, rfl, rfl, wide_div (b := 64) (by decide) (by decide) (by decide) (by decide), ?_⟩
      refine ⟨st, sc, d, S, slots, dep + 1, _, rfl, o8, sh.keep k8, by omega, by omega, by omega, by omega, fun vy y H9 k9 o9 oky cy ty => ?_⟩
      refine ⟨_, rfl, _, rfl, _, rfl, _, _, rfl, rfl, _, rfl, _, _, rfl, rfl, _, _, rfl, rfl, wide_div (b := 64) (by decide) (by decide) (by decide) (by decide), ?_⟩
      refine ⟨st, sc, d, S, slots, dep + 1, _, rfl, o9, sh.keep (k8.trans k9), by omega, by omega, by omega, by omega, fun vn y' H10 k10 o10 okn cn tn' => ?_⟩
      have h10p := k10 _ _ nps (k9 _ _ nps h8p)
      have tk810 : TK H8 H10 := (TK.of_keep k9 (chg o8)).trans (TK.of_keep k10 (chg o9))
      have ty10 := Tn.keep (TK.of_keep k10 (chg o9)) ty
      -- append ("if", slot, word, yes, no)
      refine ⟨_, rfl, .inl ⟨rfl, _, SqL.of h10p⟩, _, rfl, _, rfl, _, rfl, _, rfl, by show 5 ≤ sizeLine; decide, fun t2 ht2 => ?_⟩
      have npt2 : p ≠ t2 := fun e => by rw [e, ht2] at h10p; cases h10p
      have tup2 : Tn K (upd H10 t2 (.tup [.str "if", .str sl, .str wd, vy, vn])) (.ref t2) (rowD (.ite sl wd y y')) := by
        unfold rowD
        exact Tn.new (.cons (.str _) (.cons (.str _) (.cons (.str _) (.cons ty10 (.cons tn' .nil))))) ht2
      have h11p : upd H10 t2 (.tup [.str "if", .str sl, .str wd, vy, vn]) p = some (.lst (xs ++ [.ref t1])) := by rw [upd_ne npt2]; exact h10p
      refine ⟨p, _, _, rfl, rfl, h11p, small1000 (by rw [List.length_append]; show xs.length + 1 ≤ 1000; omega), ?_⟩
      have k11 : Keep st H (upd H10 t2 (.tup [.str "if", .str sl, .str wd, vy, vn])) := ((k8.trans k9).trans k10).trans (Keep.new ht2)
      have tk11 : TK H10 (upd H10 t2 (.tup [.str "if", .str sl, .str wd, vy, vn])) := TK.of_same (Same.new ht2 _)
      obtain ⟨k12, o12, t12, ok12, c12, tk12⟩ := app k11 (o10.new ht2) h11p (TnAll.keep (tk810.trans tk11) t8) ok8 tup2 (by unfold okR; exact ⟨by omega, hsl', hwd, oky, okn⟩)
      have ec : Td.cnt (.ite sl wd y y') = 1 + cnts y + cnts y' := by unfold Td.cnt; rfl
      have er : Td.cnt (.rd false ce sl) = 1 := rfl
      have ty12 := Tn.keep (tk11.trans tk12) ty10
      have tn12 := Tn.keep (tk11.trans tk12) tn'
      refine ⟨_, rfl, _, _, rfl, rfl, _, rfl, vy, y, S, dep + 1, rfl, ty12.dp, oky, by omega, by omega, _, _, rfl, rfl, _, rfl, vn, y', S, dep + 1, rfl, tn12.dp, okn, by omega, by omega, _, _, rfl, rfl, ?_⟩
      exact ⟨_, _, _, _, _, _, _, _, _, rfl, k12, o12, upd_same, t12, ok12, by rw [c12, c8, ec, er]; omega, by omega⟩
    · rintro H3 ⟨k3, o3⟩
      refine ⟨_, rfl, _, _, rfl, rfl, _, rfl, ?_⟩
      refine ite2 (fun c1 => ?_) (fun _ => ?_)
      · have c1' : 1 ≤ left := of_decide_eq_true c1
        have hp3 := k3 _ _ nps hpH
        have cst : Chg (H2 st) := by obtain ⟨L, hL⟩ := oH.at; rw [hL]; trivial
        have t3 := TnAll.keep (TK.of_keep k3 cst) hT
        have hx100 := hlen xs hT
        refine ⟨_, rfl, .inl ⟨rfl, _, SqL.of hp3⟩, _, rfl, _, rfl, st, sc, d, S, slots, rfl, o3, sh.keep (kH.trans k3), fun v r H4 k4 o4 okr hir tv => ?_⟩
        have hp4 := k4 _ _ nps hp3
        refine ⟨p, _, _, rfl, rfl, hp4, small1000 (by omega), ?_⟩
        refine ⟨_, rfl, _, _, rfl, rfl, ?_⟩
        have cst3 : Chg (H3 st) := by obtain ⟨L, hL⟩ := o3.at; rw [hL]; trivial
        obtain ⟨k5, o5, t5, ok5, c5, tk5⟩ := app ((kH.trans k3).trans k4) o4 hp4 (TnAll.keep (TK.of_keep k4 cst3) t3) hok tv (okr dep)
        have e1 := cnt_flat hir
        exact ⟨_, _, v7, v8, v9, v10, v11, _, _, rfl, k5, o5, upd_same, t5, ok5, by rw [c5, e1]; omega, by omega⟩
      · exact ⟨left, _, v7, v8, v9, v10, v11, xs, rs, rfl, kH.trans k3, o3, k3 _ _ nps hpH, TnAll.keep (TK.of_keep k3 (chg oH)) hT, hok, hcnt, hl0⟩
  · rintro σ H2 ⟨left, v6, v7, v8, v9, v10, v11, xs, rs, rfl, kH, oH, hpH, hT, hok, hcnt, hl0⟩
    refine ⟨_, rfl, p, _, rfl, .inl ⟨SqL.of hpH, fun t ht => ?_⟩⟩
    exact q _ rs _ (kH.trans (Keep.new ht)) (oH.new ht) hok (by omega) (Tn.new hT ht)
theorem ok_rows (T : Tops w K mg)
    (G1 : FnOk P w K mg base CX0 1 T.a__law_draw T.d__law_draw ["_law_state_here", "_law_many_here"] spDraw)
    (G2 : FnOk P w K mg base CX0 2 T.a__law_row T.d__law_row ["_law_state_here", "_law_shape"] (spRow K))
    (G3 : FnOk P w K mg base CX0 5 T.a__law_many T.d__law_many ["_law_rows_here"] (spMany K 5)) :
    ∀ k, FnOk P w K mg base CX0 (k + 5) T.a__law_rows T.d__law_rows ["_law_state_here", "_law_shape", "_law_depth", "_law_room"] (spRows K k)
  | 0 => by
    have no : ∀ vs H Q E, ¬ spRows K 0 vs H Q E := fun vs H Q E h => by
      obtain ⟨_, _, _, _, _, dep, _, _, _, _, h1, h2, _⟩ := h
      omega
    exact ⟨fun vs H Q E h => absurd h (no vs H Q E), fun A outer s H args us vs Q E _ _ _ _ h => absurd h (no vs H Q E)⟩
  | k + 1 => ok_rows1 T (n := k + 5) (by omega) G1 G2 G3 (ok_rows T G1 G2 G3 k)
end
end K80
namespace K80
open PySem PySem.Spec PyProof.Rows L2 Td
def spParts (K : PySem.W.Frag) : Sp := fun vs H Q _ => ∃ (st sc z : Addr) (a0 a1 a2 a3 a4 : Int) (pk wr : Bool),
  vs = [.ref st, .ref z, .bl pk, .bl wr] ∧ StOk H st sc ∧ SqT K H z [.int a0, .int a1, .int a2, .int a3, .int a4] ∧ z ≠ st ∧
  1 ≤ a0 ∧ a0 ≤ 3 ∧ 1 ≤ a1 ∧ a1 ≤ 4 ∧ 0 ≤ a2 ∧ a2 ≤ 6 ∧ 0 ≤ a3 ∧ a3 ≤ 4 ∧ 0 ≤ a4 ∧ a4 ≤ 15 ∧
  ∀ (v : V) (pp : PP) (H' : Hp), Keep st H H' → StOk H' st sc → pp.Ok (a4.toNat + 1) → (pp.sources.length : Int) ≤ a1 → DataX K H' v pp.words pp.sources (pairsD pp.derived) (pairsD pp.effects) → Q v H'
/-- what stands while the bodies are drawn -/
structure PSt (K : PySem.W.Frag) (H0 H : Hp) (st sc aw pN p2 p4 pd pD : Addr) (ws srcs slots ns : List Str) (kd pk wr : V) (rd : List Str) (xs : List V) (ds : List (Str × List Td.Row)) : Prop where
  kp : Keep st H0 H
  ok : StOk H st sc
  wA : SqT K H aw (ws.map V.str)
  sA : FzT H p4 (srcs.map V.str)
  nA : H pN = some (.lst (ns.map V.str))
  lA : H p2 = some (.lst (slots.map V.str))
  dA : ∃ pc, H pd = some (.dK (shp7 kd (.ref pc) (.ref p4) (.ref p2) (.ref aw) pk wr)) ∧ H pc = some (.lst (rd.map V.str)) ∧ pc ≠ st ∧ pc ≠ pD
  xA : H pD = some (.lst xs)
  tA : TnAll K H xs (ds.map Td.pairD)
structure PNe (H0 : Hp) (st sc aw pN p2 p4 pd pD : Addr) : Prop where
  naw : aw ≠ st
  npN : pN ≠ st
  np2 : p2 ≠ st
  np4 : p4 ≠ st
  npd : pd ≠ st
  npD : pD ≠ st
  ndc : pd ≠ sc
  nDc : pD ≠ sc
  d0 : H0 pd = none
  D0 : H0 pD = none
  nN : pN ≠ pD
  n2 : p2 ≠ pD
section
variable {K : PySem.W.Frag} {H0 H H' : Hp} {st sc aw pN p2 p4 pd pD : Addr} {ws srcs slots ns : List Str} {kd pk wr : V} {rd : List Str} {xs : List V} {ds : List (Str × List Td.Row)}
theorem StOk.chg (h : StOk H st sc) : Chg (H st) := by
  obtain ⟨L, hL⟩ := h.at
  rw [hL]; trivial
theorem PSt.keep (h : PSt K H0 H st sc aw pN p2 p4 pd pD ws srcs slots ns kd pk wr rd xs ds) (n : PNe H0 st sc aw pN p2 p4 pd pD) (k : Keep st H H') (o : StOk H' st sc) :
    PSt K H0 H' st sc aw pN p2 p4 pd pD ws srcs slots ns kd pk wr rd xs ds := by
  obtain ⟨pc, d1, d2, d3, d4⟩ := h.dA
  exact ⟨h.kp.trans k, o, SqT.keep k n.naw h.wA, FzT.keep k n.np4 h.sA, k _ _ n.npN h.nA, k _ _ n.np2 h.lA, ⟨pc, k _ _ n.npd d1, k _ _ d3 d2, d3, d4⟩, k _ _ n.npD h.xA,
    TnAll.keep (TK.of_keep k h.ok.chg) h.tA⟩
theorem PSt.new {p : Addr} {o : HO} (h : PSt K H0 H st sc aw pN p2 p4 pd pD ws srcs slots ns kd pk wr rd xs ds) (n : PNe H0 st sc aw pN p2 p4 pd pD) (hp : H p = none) :
    PSt K H0 (upd H p o) st sc aw pN p2 p4 pd pD ws srcs slots ns kd pk wr rd xs ds := h.keep n (Keep.new hp) (h.ok.new hp)
theorem PSt.shape {eff p r : Bool} (h : PSt K H0 H st sc aw pN p2 p4 pd pD ws srcs slots ns (.str (if eff then "effects" else "derived")) (.bl p) (.bl r) rd xs ds) (n : PNe H0 st sc aw pN p2 p4 pd pD)
    (hp : p = true → eff = true) (hr : r = true → eff = true) (w0 : ws ≠ []) (s0 : slots ≠ []) (c0 : rd ≠ []) (o0 : srcs ≠ []) (sm : ws.length ≤ 100 ∧ slots.length ≤ 100 ∧ rd.length ≤ 100 ∧ srcs.length ≤ 100) (g : ∀ z ∈ slots, isNm z = true) :
    ShapeAt K st H pd ⟨eff, ws, srcs, rd⟩ slots := by
  obtain ⟨pc, d1, d2, d3, d4⟩ := h.dA
  exact ⟨⟨_, aw, p2, pc, p4, p, r, d1, by show 7 ≤ 100; decide, get_words .., h.wA, n.naw, get_slots .., SqL.of h.lA, n.np2, get_cells .., SqL.of d2, d3, get_sources .., h.sA.sq, n.np4, get_kind .., get_peeks .., get_writes .., hp, hr⟩, n.npd, w0, s0, c0, o0, sm, g⟩
theorem PSt.app {v : V} {q : Str × List Td.Row} (h : PSt K H0 H st sc aw pN p2 p4 pd pD ws srcs slots ns kd pk wr rd xs ds) (n : PNe H0 st sc aw pN p2 p4 pd pD) (tv : Tn K H v (Td.pairD q)) :
    PSt K H0 (upd H pD (.lst (xs ++ [v]))) st sc aw pN p2 p4 pd pD ws srcs slots ns kd pk wr rd (xs ++ [v]) (ds ++ [q]) := by
  obtain ⟨pc, d1, d2, d3, d4⟩ := h.dA
  have tk : TK H (upd H pD (.lst (xs ++ [v]))) := TK.upd (by rw [h.xA]; trivial)
  have ne1 : pd ≠ pD := ne_of d1 h.xA (by intro e; cases e)
  refine ⟨h.kp.own n.D0, h.ok.other n.npD n.nDc, SqT.tk tk h.wA, FzT.tk tk h.sA, by rw [upd_ne n.nN]; exact h.nA, by rw [upd_ne n.n2]; exact h.lA,
    ⟨pc, by rw [upd_ne ne1]; exact d1, by rw [upd_ne d4]; exact d2, d3, d4⟩, upd_same, ?_⟩
  rw [List.map_append]
  exact TnAll.append (TnAll.keep tk h.tA) (TnAll.one (Tn.keep tk tv))
/-- the dict is changed -/
theorem PSt.put {kd' pk' wr' : V} {rd' : List Str} {pc' : Addr} (h : PSt K H0 H st sc aw pN p2 p4 pd pD ws srcs slots ns kd pk wr rd xs ds) (n : PNe H0 st sc aw pN p2 p4 pd pD)
    (hc : H pc' = some (.lst (rd'.map V.str))) (h1 : pc' ≠ st) (h2 : pc' ≠ pD) :
    PSt K H0 (upd H pd (.dK (shp7 kd' (.ref pc') (.ref p4) (.ref p2) (.ref aw) pk' wr'))) st sc aw pN p2 p4 pd pD ws srcs slots ns kd' pk' wr' rd' xs ds := by
  obtain ⟨pc, d1, d2, d3, d4⟩ := h.dA
  have tk : TK H (upd H pd (.dK (shp7 kd' (.ref pc') (.ref p4) (.ref p2) (.ref aw) pk' wr'))) := TK.upd (by rw [d1]; trivial)
  exact ⟨h.kp.own n.d0, h.ok.other n.npd n.ndc, SqT.tk tk h.wA, FzT.tk tk h.sA, by rw [upd_ne (ne_of h.nA d1 (by intro e; cases e))]; exact h.nA, by rw [upd_ne (ne_of h.lA d1 (by intro e; cases e))]; exact h.lA,
    ⟨pc', upd_same, by rw [upd_ne (ne_of hc d1 (by intro e; cases e))]; exact hc, h1, h2⟩, by rw [upd_ne (ne_of h.xA d1 (by intro e; cases e))]; exact h.xA, TnAll.keep tk h.tA⟩
end
section
variable {P : Program} {w : World} {K : PySem.W.Frag} {mg : Str → Option Value} {base : Heap}
theorem ok_parts (T : Tops w K mg)
    (G__law_draw : FnOk P w K mg base CX0 1 T.a__law_draw T.d__law_draw ["_law_state_here", "_law_many_here"] spDraw)
    (G__law_names : FnOk P w K mg base CX0 2 T.a__law_names T.d__law_names ["_law_state_here", "_law_many_here"] spNames)
    (G__law_rows : FnOk P w K mg base CX0 10 T.a__law_rows T.d__law_rows ["_law_state_here", "_law_shape", "_law_depth", "_law_room"] (spRows K 5)) :
    FnOk P w K mg base CX0 11 T.a__law_parts T.d__law_parts ["_law_state_here", "_law_sizes", "_law_peeks", "_law_writes"] (spParts K) := by
  refine T.F__law_parts.ok sc_law_parts (fun vs H Q E h => ?_) (fun cdv A outer s H vs Q E hr h => ?_)
  · obtain ⟨st, sc, z, a0, a1, a2, a3, a4, pk, wr, rfl, _⟩ := h
    rfl
  obtain ⟨st, sc, z, a0, a1, a2, a3, a4, pk, wr, rfl, ok, hz, nz, a00, a01, a10, a11, a20, a21, a30, a31, a40, a41, q⟩ := h
  refine ⟨_, (pss_cons (ps_set (i := 4) sc_law_parts.nd rfl (Or.inl rfl) (pe_op op_add pe_int (pe_call G__law_draw (hr.mono (by omega)) rfl T.m__law_draw T.F__law_draw.kp T.b__law_draw .nil pass0 (pa_cons (pv 0) (pa_cons (pe_ix ix_tup (pv 1) pe_int (fun _ _ => rfl)) pa_nil)))))
    (pss_cons (ps_set (i := 5) sc_law_parts.nd rfl (Or.inl rfl) (pe_op op_add pe_int (pe_call G__law_draw (hr.mono (by omega)) rfl T.m__law_draw T.F__law_draw.kp T.b__law_draw .nil pass0 (pa_cons (pv 0) (pa_cons (pe_ix ix_tup (pv 1) pe_int (fun _ _ => rfl)) pa_nil)))))
    (pss_cons (ps_set (i := 6) sc_law_parts.nd rfl (Or.inl rfl) (pe_callB (call_max2 rfl) rfl T.z_max (by decide +kernel) (pa_cons (pe_call G__law_draw (hr.mono (by omega)) rfl T.m__law_draw T.F__law_draw.kp T.b__law_draw .nil pass0 (pa_cons (pv 0) (pa_cons (pe_op op_add (pe_ix ix_tup (pv 1) pe_int (fun _ _ => rfl)) pe_int) pa_nil))) (pa_cons (pe_call G__law_draw (hr.mono (by omega)) rfl T.m__law_draw T.F__law_draw.kp T.b__law_draw .nil pass0 (pa_cons (pv 0) (pa_cons (pe_op op_add (pe_ix ix_tup (pv 1) pe_int (fun _ _ => rfl)) pe_int) pa_nil))) pa_nil))))
    (pss_cons (ps_set (i := 7) sc_law_parts.nd rfl (Or.inl rfl) (pe_callB (call_max2 rfl) rfl T.z_max (by decide +kernel) (pa_cons (pe_call G__law_draw (hr.mono (by omega)) rfl T.m__law_draw T.F__law_draw.kp T.b__law_draw .nil pass0 (pa_cons (pv 0) (pa_cons (pe_op op_add (pe_ix ix_tup (pv 1) pe_int (fun _ _ => rfl)) pe_int) pa_nil))) (pa_cons (pe_call G__law_draw (hr.mono (by omega)) rfl T.m__law_draw T.F__law_draw.kp T.b__law_draw .nil pass0 (pa_cons (pv 0) (pa_cons (pe_op op_add (pe_ix ix_tup (pv 1) pe_int (fun _ _ => rfl)) pe_int) pa_nil))) pa_nil))))
    (pss_cons (ps_set (i := 8) sc_law_parts.nd rfl (Or.inl rfl) (pe_callTy call_tuple_of rfl T.z_tuple (by decide +kernel) (pa_cons (pe_call G__law_names (hr.mono (by omega)) rfl T.m__law_names T.F__law_names.kp T.b__law_names .nil pass0 (pa_cons (pv 0) (pa_cons (pv 4) pa_nil))) pa_nil)))
    (pss_cons (ps_set (i := 9) sc_law_parts.nd rfl (Or.inl rfl) (pe_call G__law_names (hr.mono (by omega)) rfl T.m__law_names T.F__law_names.kp T.b__law_names .nil pass0 (pa_cons (pv 0) (pa_cons (pe_op op_add (pe_op op_add (pv 5) (pv 6)) (pv 7)) pa_nil))))
    (C8.pss_cut (ps_if (PW.pt (pw_and (pt_cmpR op_eq (pe_call G__law_draw (hr.mono (by omega)) rfl T.m__law_draw T.F__law_draw.kp T.b__law_draw .nil pass0 (pa_cons (pv 0) (pa_cons pe_int pa_nil))) pe_int (nomark _)) (pw_and1 (pt_cmpR op_notIn_seq (pe_ix ix_list (pv 9) pe_int (fun _ _ => rfl)) (pv 8) (by rfl))))) (pss_one (ps_set (i := 8) sc_law_parts.nd rfl (Or.inl rfl) (pe_op op_catA (pe_slice sl_tupA (pv 8) (po_some pe_int) po_none) (pe_tup (pa_cons (pe_ix ix_list (pv 9) pe_int (fun _ _ => rfl)) pa_nil))))) pss_nil)
    (pss_cons (ps_set (i := 10) sc_law_parts.nd rfl (Or.inl rfl) (pe_op op_cat (pe_call G__law_names (hr.mono (by omega)) rfl T.m__law_names T.F__law_names.kp T.b__law_names .nil pass0 (pa_cons (pv 0) (pa_cons pe_int pa_nil))) (pe_lst (pa_cons (pe_ix ix_list (pv 9) pe_int (fun _ _ => rfl)) pa_nil))))
    (pss_cons (ps_set (i := 11) sc_law_parts.nd rfl (Or.inl rfl) (pe_callTy (T := "tuple") call_tuple_ofF rfl T.z_tuple (by decide +kernel) (pa_cons (pe_slice sl_list (pv 9) po_none (po_some (pv 5))) pa_nil)))
    (pss_cons (ps_set (i := 12) sc_law_parts.nd rfl (Or.inl rfl) (pe_disp (pps_cons pe_str pe_str (pps_cons pe_str (pe_callTy call_list_of rfl T.z_list (by decide +kernel) (pa_cons (pv 11) pa_nil)) (pps_cons pe_str (pv 11) (pps_cons pe_str (pv 10) (pps_cons pe_str (pv 8) pps_nil))))) (by rfl) (by rfl) (fun z => by cases z) (by decide)))
    (pss_cons (ps_dput (hu_of hr) (pv 12) pe_str pe_bl rfl)
    (pss_cons (ps_dput (hu_of hr) (pv 12) pe_str pe_bl rfl)
    (pss_cons (ps_set (i := 13) sc_law_parts.nd rfl (Or.inl rfl) (pe_lst pa_nil))
    (pss_cons (ps_for PassesOwn.never rfl (pi_range1 rfl T.z_range (pa_cons (pv 6) pa_nil)) (pg_name (i := 14) sc_law_parts.nd rfl (Or.inl rfl)) (pss_cons (ps_set (i := 15) sc_law_parts.nd rfl (Or.inl rfl) (pe_ix ix_list (pv 9) (pe_op op_add (pv 5) (pv 14)) (fun _ _ => rfl)))
    (pss_cons (ps_set (i := 16) sc_law_parts.nd rfl (Or.inl rfl) (pe_call G__law_rows (hr.mono (by omega)) rfl T.m__law_rows T.F__law_rows.kp T.b__law_rows .nil pass0 (pa_cons (pv 0) (pa_cons (pv 12) (pa_cons pe_int (pa_cons (pe_ix ix_tup (pv 1) pe_int (fun _ _ => rfl)) pa_nil))))))
    (C8.pss_cut (ps_if (pt_cmpR op_gt (pe_call G__law_draw (hr.mono (by omega)) rfl T.m__law_draw T.F__law_draw.kp T.b__law_draw .nil pass0 (pa_cons (pv 0) (pa_cons pe_int pa_nil))) pe_int (nomark _)) (pss_one (ps_set (i := 16) sc_law_parts.nd rfl (Or.inl rfl) (pe_op op_catA (pv 16) (pe_tup (pa_cons (pe_tup (pa_cons pe_str (pa_cons (pe_ix ix_list (pv 10) (pe_call G__law_draw (hr.mono (by omega)) rfl T.m__law_draw T.F__law_draw.kp T.b__law_draw .nil pass0 (pa_cons (pv 0) (pa_cons pe_int pa_nil))) (fun _ _ => rfl)) pa_nil))) pa_nil))))) pss_nil)
    (pss_cons (ps_expr (pe_bm PySem.F.plainAttrs_list PySem.F.slot_list_append PySem.F.type_list_append mt_append (pv 13) (pa_cons (pe_tup (pa_cons (pv 15) (pa_cons (pv 16) pa_nil))) pa_nil)))
    (pss_one (ps_dput (hu_of hr) (pv 12) pe_str (pe_op op_cat (pe_dget (hu_of hr) (pv 12) pe_str (fun _ _ => rfl)) (pe_lst (pa_cons (pv 15) pa_nil))) rfl)))))))
    (pss_cons (ps_dput (hu_of hr) (pv 12) pe_str pe_str rfl)
    (pss_cons (ps_dput (hu_of hr) (pv 12) pe_str (pv 2) rfl)
    (pss_cons (ps_dput (hu_of hr) (pv 12) pe_str (pv 3) rfl)
    (pss_cons (ps_set (i := 17) sc_law_parts.nd rfl (Or.inl rfl) (pe_lst pa_nil))
    (pss_cons (ps_for PassesOwn.never rfl (pi_range1 rfl T.z_range (pa_cons (pv 7) pa_nil)) (pg_name (i := 14) sc_law_parts.nd rfl (Or.inl rfl)) (pss_cons (ps_set (i := 16) sc_law_parts.nd rfl (Or.inl rfl) (pe_call G__law_rows (hr.mono (by omega)) rfl T.m__law_rows T.F__law_rows.kp T.b__law_rows .nil pass0 (pa_cons (pv 0) (pa_cons (pv 12) (pa_cons pe_int (pa_cons (pe_ix ix_tup (pv 1) pe_int (fun _ _ => rfl)) pa_nil))))))
    (C8.pss_cut (ps_if (pt_cmpR op_gt (pe_call G__law_draw (hr.mono (by omega)) rfl T.m__law_draw T.F__law_draw.kp T.b__law_draw .nil pass0 (pa_cons (pv 0) (pa_cons pe_int pa_nil))) pe_int (nomark _)) (pss_one (ps_set (i := 16) sc_law_parts.nd rfl (Or.inl rfl) (pe_op op_catA (pv 16) (pe_tup (pa_cons (pe_tup (pa_cons pe_str (pa_cons (pe_ix ix_list (pv 10) (pe_call G__law_draw (hr.mono (by omega)) rfl T.m__law_draw T.F__law_draw.kp T.b__law_draw .nil pass0 (pa_cons (pv 0) (pa_cons pe_int pa_nil))) (fun _ _ => rfl)) pa_nil))) pa_nil))))) pss_nil)
    (pss_one (ps_expr (pe_bm PySem.F.plainAttrs_list PySem.F.slot_list_append PySem.F.type_list_append mt_append (pv 17) (pa_cons (pe_tup (pa_cons (pe_ix ix_list (pv 9) (pe_op op_add (pe_op op_add (pv 5) (pv 6)) (pv 14)) (fun _ _ => rfl)) (pa_cons (pv 16) pa_nil))) pa_nil)))))))
    (pss_one (ps_ret (pe_tup (pa_cons (pv 8) (pa_cons (pv 11) (pa_cons (pe_callTy call_tuple_of rfl T.z_tuple (by decide +kernel) (pa_cons (pv 13) pa_nil)) (pa_cons (pe_callTy call_tuple_of rfl T.z_tuple (by decide +kernel) (pa_cons (pv 17) pa_nil)) pa_nil)))))))))))))))))))))))))), ?_⟩
  -- the four numbers
  refine ⟨_, rfl, _, rfl, z, _, 0, _, rfl, rfl, hz, rfl, st, sc, _, rfl, by omega, by omega, ok, fun mw H1 mw0 mw1 k1 o1 _ => ⟨_, _, rfl, rfl, ?_⟩⟩
  have z1 := SqT.keep k1 nz hz
  refine ⟨_, rfl, _, rfl, z, _, 1, _, rfl, rfl, z1, rfl, st, sc, _, rfl, by omega, by omega, o1, fun ms H2 ms0 ms1 k2 o2 _ => ⟨_, _, rfl, rfl, ?_⟩⟩
  have z2 := SqT.keep k2 nz z1
  refine ⟨_, rfl, _, rfl, z, _, 2, _, rfl, rfl, z2, rfl, _, _, rfl, rfl, st, sc, _, rfl, by omega, by omega, o2, fun d1 H3 d10 d11 k3 o3 _ => ?_⟩
  have z3 := SqT.keep k3 nz z2
  refine ⟨_, rfl, _, rfl, z, _, 2, _, rfl, rfl, z3, rfl, _, _, rfl, rfl, st, sc, _, rfl, by omega, by omega, o3, fun d2 H4 d20 d21 k4 o4 _ => ⟨_, _, rfl, ?_⟩⟩
  have z4 := SqT.keep k4 nz z3
  have md0 : 0 ≤ (if d2 > d1 then d2 else d1) ∧ (if d2 > d1 then d2 else d1) ≤ a2 := by split <;> omega
  generalize (if d2 > d1 then d2 else d1) = md at md0
  refine ⟨_, rfl, _, rfl, z, _, 3, _, rfl, rfl, z4, rfl, _, _, rfl, rfl, st, sc, _, rfl, by omega, by omega, o4, fun e1 H5 e10 e11 k5 o5 _ => ?_⟩
  have z5 := SqT.keep k5 nz z4
  refine ⟨_, rfl, _, rfl, z, _, 3, _, rfl, rfl, z5, rfl, _, _, rfl, rfl, st, sc, _, rfl, by omega, by omega, o5, fun e2 H6 e20 e21 k6 o6 _ => ⟨_, _, rfl, ?_⟩⟩
  have z6 := SqT.keep k6 nz z5
  have me0 : 0 ≤ (if e2 > e1 then e2 else e1) ∧ (if e2 > e1 then e2 else e1) ≤ a3 := by split <;> omega
  generalize (if e2 > e1 then e2 else e1) = me at me0
  have k06 : Keep st H H6 := k1.trans (k2.trans (k3.trans (k4.trans (k5.trans k6))))
  -- words, names
  refine ⟨_, rfl, _, rfl, st, sc, _, rfl, by omega, by omega, o6, fun pw ws H7 k7 o7 pw0 pws pwc pwL wl wN => ⟨pw, _, rfl, .inl ⟨SqL.of pwL, fun aw haw => ?_⟩⟩⟩
  have o8 : StOk (upd H7 aw (.tup (ws.map V.str))) st sc := o7.new haw
  have k8 : Keep st H (upd H7 aw (.tup (ws.map V.str))) := k06.trans (k7.trans (Keep.new haw))
  have w8 : SqT K (upd H7 aw (.tup (ws.map V.str))) aw (ws.map V.str) := SqT.of upd_same
  obtain ⟨naw, nawc⟩ := o7.ne haw
  show tSeq _ _ _ _ (upd H7 aw (.tup (ws.map V.str)))
  generalize upd H7 aw (.tup (ws.map V.str)) = H8 at o8 k8 w8
  refine ⟨_, rfl, _, rfl, _, rfl, _, _, rfl, rfl, _, rfl, _, _, rfl, rfl, st, sc, _, rfl, by omega, by omega, o8, fun pN ns H9 k9 o9 pN0 pNs pNc pNL nl nN => ?_⟩
  have k09 := k8.trans k9
  have w9 := SqT.keep k9 naw w8
  have z9 := SqT.keep k09 nz hz
  have hn0 : 0 < ns.length := by omega
  have n0at : atI (ns.map V.str) 0 = some (V.str ns[0]) := atI_nat (j := 0) (by rw [List.getElem?_map, List.getElem?_eq_getElem hn0]; rfl)
  -- the words may get the first name
  refine ⟨fun σ' H' => ∃ (aw : Addr) (ws : List Str), σ' = [some (.ref st), some (.ref z), some (.bl pk), some (.bl wr), some (.int (2 + mw)), some (.int (1 + ms)), some (.int md), some (.int me), some (.ref aw), some (.ref pN), none, none, none, none, none, none, none, none] ∧
    Keep st H H' ∧ StOk H' st sc ∧ SqT K H' aw (ws.map V.str) ∧ aw ≠ st ∧ H' pN = some (.lst (ns.map V.str)) ∧ (ws.length : Int) = 2 + mw ∧ Names ws, ?_, ?_⟩
  · refine ⟨_, rfl, st, sc, 4, rfl, by decide, by decide, o9, fun x H10 x0 x1 k10 o10 _ => ⟨rfl, _, rfl, ?_⟩⟩
    have w10 := SqT.keep k10 naw w9
    have L10 := k10 _ _ pNs pNL
    refine ite2 (fun _ => ?_) (fun _ => ⟨aw, ws, rfl, k09.trans k10, o10, w10, naw, L10, wl, wN⟩)
    refine ⟨_, rfl, pN, _, 0, _, rfl, rfl, SqL.of L10, n0at, _, rfl, aw, _, rfl, .inr w10, rfl, ?_, _, rfl, ?_⟩
    · exact L2.flat_strs ws
    refine ite2 (fun c => ?_) (fun _ => ⟨aw, ws, rfl, k09.trans k10, o10, w10, naw, L10, wl, wN⟩)
    have hnot : ns[0] ∉ ws := by
      have c' : (!inV (V.str ns[0]) (ws.map V.str)) = true := c
      rw [inV_strs] at c'
      simpa using c'
    have wsne : ws.map V.str ≠ [] := by
      intro e
      have := congrArg List.length e
      rw [List.length_map, List.length_nil] at this
      omega
    refine ⟨_, rfl, 1, rfl, aw, _, rfl, w10, fun hh => absurd hh (not_whole1 wsne none), fun _ p1 hp1 => ?_⟩
    have pN1 : upd H10 p1 (.tup (cutV (ws.map V.str) (some 1) none)) pN = some (.lst (ns.map V.str)) := by rw [upd_ne (ne_of_none L10 hp1)]; exact L10
    refine ⟨_, rfl, pN, _, 0, _, rfl, rfl, SqL.of pN1, n0at, by show 1 ≤ sizeLine; decide, fun p2 hp2 => ?_⟩
    have n12 : p1 ≠ p2 := fun e => by rw [← e, upd_same] at hp2; cases hp2
    have hp20 : H10 p2 = none := by rw [upd_ne (Ne.symm n12)] at hp2; exact hp2
    have drop_ne : cutV (ws.map V.str) (some 1) none ≠ [] := by
      rw [cut_from1]
      intro e
      have := congrArg List.length e
      rw [List.length_drop, List.length_map, List.length_nil] at this
      omega
    refine ⟨p1, p2, _, _, rfl, rfl, SqT.of (by rw [upd_ne n12, upd_same]), SqT.of upd_same, Nat.le_of_lt (small1000 ?_), fun e => absurd e drop_ne, fun _ e => (by cases e), fun _ _ p3 hp3 => ?_⟩
    · rw [cut_from1, List.length_drop, List.length_map]; show ws.length - 1 + 1 ≤ 1000; omega
    have k13 : Keep st H (upd (upd (upd H10 p1 (.tup (cutV (ws.map V.str) (some 1) none))) p2 (.tup [V.str ns[0]])) p3 (.tup (cutV (ws.map V.str) (some 1) none ++ [V.str ns[0]]))) :=
      (((k09.trans k10).trans (Keep.new hp1)).trans (Keep.new hp2)).trans (Keep.new hp3)
    have o13 := ((o10.new hp1 (o := .tup (cutV (ws.map V.str) (some 1) none))).new hp2 (o := .tup [V.str ns[0]])).new hp3 (o := .tup (cutV (ws.map V.str) (some 1) none ++ [V.str ns[0]]))
    refine ⟨p3, ws.drop 1 ++ [ns[0]], rfl, k13, o13, ?_, (((o10.new hp1).new hp2).ne hp3).1, ?_, ?_, wN.turn (nN.good _ (List.getElem_mem hn0)) hnot⟩
    · rw [cut_from1]
      have e : (ws.drop 1 ++ [ns[0]]).map V.str = (ws.map V.str).drop 1 ++ [V.str ns[0]] := by rw [List.map_append, List.map_drop]; rfl
      rw [e]
      exact SqT.of upd_same
    · rw [upd_ne (ne_of_none (by rw [upd_ne (ne_of_none pN1 hp2)]; exact pN1) hp3), upd_ne (ne_of_none pN1 hp2)]; exact pN1
    · rw [List.length_append, List.length_drop]; show ((ws.length - 1 + 1 : Nat) : Int) = 2 + mw; omega
  · clear wl wN w9 w8 naw nawc haw aw ws pwL pws pw0 pwc
    rintro σ' H11 ⟨aw, ws, rfl, k11, o11, w11, naw, L11, wl, wN⟩
    -- slots
    refine ⟨_, rfl, st, sc, _, rfl, by decide, by decide, o11, fun pS ss H12 k12 o12 pS0 pSs pSc pSL sl sN => ?_⟩
    have L12 := k12 _ _ pNs L11
    refine ⟨_, rfl, pN, _, 0, _, rfl, rfl, SqL.of L12, n0at, by show 1 ≤ sizeLine; decide, fun p1 hp1 => ?_⟩
    refine ⟨pS, p1, _, _, rfl, rfl, by rw [upd_ne (ne_of_none pSL hp1)]; exact pSL, upd_same, Nat.le_of_lt (small1000 (by rw [List.length_map]; show ss.length + 1 ≤ 1000; omega)), fun p2 hp2 => ?_⟩
    have k13 : Keep st H11 (upd (upd H12 p1 (.lst [V.str ns[0]])) p2 (.lst (ss.map V.str ++ [V.str ns[0]]))) := k12.trans ((Keep.new hp1).trans (Keep.new hp2))
    have o13 := (o12.new hp1 (o := .lst [V.str ns[0]])).new hp2 (o := .lst (ss.map V.str ++ [V.str ns[0]]))
    obtain ⟨np2, np2c⟩ := (o12.new hp1 (o := .lst [V.str ns[0]])).ne hp2
    have es : ss.map V.str ++ [V.str ns[0]] = (ss ++ [ns[0]]).map V.str := by rw [List.map_append]; rfl
    have S13 : upd (upd H12 p1 (.lst [V.str ns[0]])) p2 (.lst (ss.map V.str ++ [V.str ns[0]])) p2 = some (.lst ((ss ++ [ns[0]]).map V.str)) := by rw [upd_same, es]
    have slg : ∀ y ∈ ss ++ [ns[0]], isNm y = true := fun y hy => by
      rcases List.mem_append.mp hy with h | h
      · exact sN.good y h
      · rw [List.mem_singleton.mp h]; exact nN.good _ (List.getElem_mem hn0)
    have sln : (ss ++ [ns[0]]).length = 3 := by rw [List.length_append]; show ss.length + 1 = 3; omega
    show tSeq _ _ _ _ (upd (upd H12 p1 (.lst [V.str ns[0]])) p2 (.lst (ss.map V.str ++ [V.str ns[0]])))
    generalize upd (upd H12 p1 (.lst [V.str ns[0]])) p2 (.lst (ss.map V.str ++ [V.str ns[0]])) = H13 at k13 o13 S13
    generalize ss ++ [ns[0]] = slots at S13 slg sln
    -- sources
    have L13 := k13 _ _ pNs L11
    have msn : ((1 + ms).toNat : Nat) ≤ ns.length := by omega
    have ecut : cutV (ns.map V.str) none (some (1 + ms)) = (ns.take (1 + ms).toNat).map V.str := by
      have := cut_to (ns.map V.str) (1 + ms).toNat (by rw [List.length_map]; omega)
      rw [show (((1 + ms).toNat : Nat) : Int) = 1 + ms by omega] at this
      rw [this, List.map_take]
    refine ⟨_, rfl, _, rfl, _, rfl, pN, _, rfl, SqL.of L13, fun p3 hp3 => ⟨p3, _, rfl, SqL.of upd_same, fun o4 p4 od4 hp4 => ?_⟩⟩
    rw [ecut] at hp4 ⊢
    have k14 : Keep st H13 (upd (upd H13 p3 (.lst ((ns.take (1 + ms).toNat).map V.str))) p4 (.frz o4 (.tup ((ns.take (1 + ms).toNat).map V.str)))) := (Keep.new hp3).trans (Keep.new hp4)
    have o14 := (o13.new hp3 (o := .lst ((ns.take (1 + ms).toNat).map V.str))).new hp4 (o := .frz o4 (.tup ((ns.take (1 + ms).toNat).map V.str)))
    have S14 : FzT (upd (upd H13 p3 (.lst ((ns.take (1 + ms).toNat).map V.str))) p4 (.frz o4 (.tup ((ns.take (1 + ms).toNat).map V.str)))) p4 ((ns.take (1 + ms).toNat).map V.str) := ⟨o4, upd_same, od4⟩
    obtain ⟨np4, np4c⟩ := (o13.new hp3 (o := .lst ((ns.take (1 + ms).toNat).map V.str))).ne hp4
    have srl : (ns.take (1 + ms).toNat).length = (1 + ms).toNat := by rw [List.length_take]; omega
    show tSeq _ _ _ _ (upd (upd H13 p3 (.lst ((ns.take (1 + ms).toNat).map V.str))) p4 (.frz o4 (.tup ((ns.take (1 + ms).toNat).map V.str))))
    generalize upd (upd H13 p3 (.lst ((ns.take (1 + ms).toNat).map V.str))) p4 (.frz o4 (.tup ((ns.take (1 + ms).toNat).map V.str))) = H14 at k14 o14 S14
    -- the shape
    refine fun pd hpd => ?_
    obtain ⟨npd, npdc⟩ := o14.ne hpd
    refine ⟨_, rfl, p4, _, rfl, .inr (SqT.same (Same.new hpd _) S14.sq), fun p5 hp5 => ?_⟩
    have np5 : p5 ≠ pd := fun e => by rw [e, upd_same] at hp5; cases hp5
    have hp50 : H14 p5 = none := by rw [upd_ne np5] at hp5; exact hp5
    obtain ⟨np5s, np5c⟩ := o14.ne hp50
    refine ⟨_, rfl, _, rfl, _, rfl, by rw [upd_ne (Ne.symm np5), upd_same], shp (.str "derived") (.ref p5) (.ref p4) (.ref p2) (.ref aw), rfl, by show 5 ≤ 15; decide, ?_⟩
    rw [shp_merge]
    refine ⟨_, rfl, pd, _, rfl, DPut.k (k := Sum.inr "peeks") upd_same (small1000 (by show 5 ≤ 1000; decide)), ?_⟩
    rw [shp_peeks, upd_upd]
    refine ⟨_, rfl, pd, _, rfl, DPut.k (k := Sum.inr "writes") upd_same (small1000 (by show 6 ≤ 1000; decide)), ?_⟩
    rw [shp_writes, upd_upd]
    -- derived = []
    refine ⟨Nat.zero_le _, fun pD hpD => ?_⟩
    generalize hse : ns.take (1 + ms).toNat = srcs at S14 srl hpD hp5 ⊢
    have k1114 := k13.trans k14
    have k1014 := k11.trans k1114
    have d0 : H pd = none := k1014.free npd hpd
    have k15 : Keep st H14 (upd (upd (upd H14 pd (.dK [])) p5 (.lst (srcs.map V.str))) pd (.dK (shp7 (.str "derived") (.ref p5) (.ref p4) (.ref p2) (.ref aw) (.bl false) (.bl false)))) :=
      ((Keep.new hpd).trans (Keep.new hp5)).own hpd
    have o15 : StOk (upd (upd (upd H14 pd (.dK [])) p5 (.lst (srcs.map V.str))) pd (.dK (shp7 (.str "derived") (.ref p5) (.ref p4) (.ref p2) (.ref aw) (.bl false) (.bl false)))) st sc :=
      ((o14.new hpd).new hp5).other npd npdc
    have dd15 : upd (upd (upd H14 pd (.dK [])) p5 (.lst (srcs.map V.str))) pd (.dK (shp7 (.str "derived") (.ref p5) (.ref p4) (.ref p2) (.ref aw) (.bl false) (.bl false))) pd = some (.dK (shp7 (.str "derived") (.ref p5) (.ref p4) (.ref p2) (.ref aw) (.bl false) (.bl false))) := upd_same
    have pc15 : upd (upd (upd H14 pd (.dK [])) p5 (.lst (srcs.map V.str))) pd (.dK (shp7 (.str "derived") (.ref p5) (.ref p4) (.ref p2) (.ref aw) (.bl false) (.bl false))) p5 = some (.lst (srcs.map V.str)) := by rw [upd_ne np5, upd_same]
    generalize upd (upd (upd H14 pd (.dK [])) p5 (.lst (srcs.map V.str))) pd (.dK (shp7 (.str "derived") (.ref p5) (.ref p4) (.ref p2) (.ref aw) (.bl false) (.bl false))) = H15 at k15 o15 dd15 pc15 hpD ⊢
    have k1115 := k1114.trans k15
    have kH15 := k1014.trans k15
    obtain ⟨npD, npDc⟩ := o15.ne hpD
    have D0 : H pD = none := kH15.free npD hpD
    have L15 := k1115 _ _ pNs L11
    have S15 := (k14.trans k15) _ _ np2 S13
    have ne : PNe H st sc aw pN p2 p4 pd pD := ⟨naw, pNs, np2, np4, npd, npD, npdc, npDc, d0, D0, ne_of_none L15 hpD, ne_of_none S15 hpD⟩
    have ps0 : PSt K H (upd H15 pD (.lst [])) st sc aw pN p2 p4 pd pD ws srcs slots ns (.str "derived") (.bl false) (.bl false) srcs [] [] :=
      ⟨kH15.trans (Keep.new hpD), o15.new hpD, SqT.keep (k1115.trans (Keep.new hpD)) naw w11, FzT.keep (k15.trans (Keep.new hpD)) np4 S14, (Keep.new hpD) _ _ pNs L15, (Keep.new hpD) _ _ np2 S15,
        ⟨p5, (Keep.new hpD) _ _ npd dd15, (Keep.new hpD) _ _ np5s pc15, np5s, ne_of_none pc15 hpD⟩, upd_same, .nil⟩
    have w0 : ws ≠ [] := fun e => by rw [e] at wl; simp at wl; omega
    have sl0 : slots ≠ [] := fun e => by rw [e] at sln; simp at sln
    have so0 : srcs ≠ [] := fun e => by rw [e] at srl; simp at srl; omega
    have w100 : ws.length ≤ 100 := by omega
    have sr100 : srcs.length ≤ 100 := by omega
    -- the derived cells
    refine ⟨_, rfl, md, rfl, by omega, by omega, for_range (lo := 0) (n := md.toNat) (fun i σ H' => ∃ (v14 v15 v16 : Option V) (xs : List V) (ds : List (Str × List Td.Row)),
      σ = [some (.ref st), some (.ref z), some (.bl pk), some (.bl wr), some (.int (2 + mw)), some (.int (1 + ms)), some (.int md), some (.int me), some (.ref aw), some (.ref pN), some (.ref p2), some (.ref p4), some (.ref pd), some (.ref pD), v14, v15, v16, none] ∧
      PSt K H H' st sc aw pN p2 p4 pd pD ws srcs slots ns (.str "derived") (.bl false) (.bl false) (srcs ++ ds.map (·.1)) xs ds ∧ ds.length = i ∧ ds.map (·.1) = (ns.drop (1 + ms).toNat).take i ∧ okDer ws srcs (a4.toNat + 1) srcs ds)
      ⟨none, none, none, [], [], rfl, by simpa using ps0, rfl, by simp, by unfold okDer; trivial⟩ ?_ ?_⟩
    · rintro i σ H1 hi ⟨v14, v15, v16, xs, ds, rfl, ps, dl, dn, dok⟩
      have hil : (1 + ms).toNat + i < ns.length := by omega
      have hat : atI (ns.map V.str) (1 + ms + (0 + (i : Int))) = some (V.str ns[(1 + ms).toNat + i]) := by
        have : atI (ns.map V.str) (((1 + ms).toNat + i : Nat) : Int) = some (V.str ns[(1 + ms).toNat + i]) := atI_nat (by rw [List.getElem?_map, List.getElem?_eq_getElem hil]; rfl)
        rwa [show (((1 + ms).toNat + i : Nat) : Int) = 1 + ms + (0 + (i : Int)) by omega] at this
      refine ⟨_, rfl, _, rfl, _, rfl, _, _, rfl, rfl, pN, _, _, _, rfl, rfl, SqL.of ps.nA, hat, ?_⟩
      generalize hnm : ns[(1 + ms).toNat + i] = nm at hat
      have xl : xs.length = ds.length := by rw [ps.tA.length, List.length_map]
      have sh := ps.shape (eff := false) ne (fun h => nomatch h) (fun h => nomatch h) w0 sl0 (by simp [so0]) so0 ⟨w100, by omega, by rw [List.length_append, List.length_map]; omega, sr100⟩ slg
      refine ⟨_, rfl, _, rfl, _, rfl, z, _, 4, _, rfl, rfl, SqT.keep ps.kp nz hz, rfl, st, sc, pd, _, slots, 1, a4, rfl, ps.ok, sh, by decide, by decide, a40, by omega, fun rv rs H2 k2 o2 okr cr tr => ?_⟩
      have ps2 := ps.keep ne k2 o2
      refine ⟨fun σ' H' => ∃ (rv' : V) (rs' : List Td.Row), σ' = [some (.ref st), some (.ref z), some (.bl pk), some (.bl wr), some (.int (2 + mw)), some (.int (1 + ms)), some (.int md), some (.int me), some (.ref aw), some (.ref pN), some (.ref p2), some (.ref p4), some (.ref pd), some (.ref pD), some (.int (0 + (i : Int))), some (.str nm), some rv', none] ∧
        PSt K H H' st sc aw pN p2 p4 pd pD ws srcs slots ns (.str "derived") (.bl false) (.bl false) (srcs ++ ds.map (·.1)) xs ds ∧ okRs ⟨false, ws, srcs, srcs ++ ds.map (·.1)⟩ 1 rs' ∧ Lim false (a4.toNat + 1) rs' ∧ Tn K H' rv' (.tuple (rowsD rs')), ?_, ?_⟩
      · refine ⟨_, rfl, st, sc, 4, rfl, by decide, by decide, o2, fun x H3 x0 x1 k3 o3 _ => ⟨_, _, rfl, rfl, _, rfl, ?_⟩⟩
        have ps3 := ps2.keep ne k3 o3
        have tr3 := Tn.keep (TK.of_keep k3 o2.chg) tr
        refine ite2 (fun _ => ?_) (fun _ => ⟨rv, rs, rfl, ps3, okr, ⟨by omega, rs, [], (List.append_nil rs).symm, by omega, .inl rfl⟩, tr3⟩)
        obtain ⟨ar, ys, rfl, hS3, hT3⟩ := Tn.tup_inv tr3
        have yl : ys.length = rs.length := by rw [hT3.length, rowsD_length]
        have := cnts_len rs
        refine ⟨_, rfl, _, rfl, _, rfl, st, sc, 3, rfl, by decide, by decide, o3, fun y H4 y0 y1 k4 o4 _ => ?_⟩
        have ps4 := ps3.keep ne k4 o4
        obtain ⟨sl, hsl, esl⟩ := pick (xs := slots) y0 (by rw [List.length_map]; omega)
        refine ⟨p2, _, y, _, rfl, rfl, SqL.of ps4.lA, esl, by show 2 ≤ sizeLine; decide, fun t1 ht1 => ⟨by show 1 ≤ sizeLine; decide, fun t2 ht2 => ?_⟩⟩
        have g1 : Tn K (upd H4 t1 (.tup [.str "give", .str sl])) (.ref t1) (rowD (.give sl)) := by unfold rowD; exact Tn.new (TnAll.strs ["give", sl]) ht1
        have g2 := Tn.new (TnAll.one g1) ht2
        have ps5 := (ps4.new ne ht1 (o := .tup [.str "give", .str sl])).new ne ht2 (o := .tup [.ref t1])
        have tkx : TK H3 (upd (upd H4 t1 (.tup [.str "give", .str sl])) t2 (.tup [.ref t1])) := ((TK.of_keep k4 o3.chg).trans (TK.of_same (Same.new ht1 _))).trans (TK.of_same (Same.new ht2 _))
        have okg : okRs ⟨false, ws, srcs, srcs ++ ds.map (·.1)⟩ 1 (rs ++ [Td.Row.give sl]) := okRs_append okr (okRs_one (by unfold okR; exact ⟨rfl, slg sl hsl⟩))
        have cg : Lim false (a4.toNat + 1) (rs ++ [Td.Row.give sl]) := ⟨by rw [cnts_append, cnts_one]; show cnts rs + 1 ≤ _; omega, rs, [.give sl], rfl, by omega, .inr ⟨sl, rfl⟩⟩
        refine ⟨ar, t2, ys, [.ref t1], rfl, rfl, SqT.tk tkx hS3, SqT.of upd_same, Nat.le_of_lt (small1000 (by show ys.length + 1 ≤ 1000; omega)), fun e => ?_, fun _ e => (by cases e), fun _ _ t3 ht3 => ?_⟩
        · have er : rs = [] := by
            rw [e] at yl
            exact List.length_eq_zero_iff.mp yl.symm
          refine ⟨_, rs ++ [.give sl], rfl, ps5, okg, cg, ?_⟩
          rw [er]
          exact g2
        · refine ⟨_, rs ++ [.give sl], rfl, ps5.new ne ht3, okg, cg, ?_⟩
          rw [rowsD_append, rowsD_one]
          exact Tn.new (TnAll.append (TnAll.keep tkx hT3) (TnAll.one (Tn.keep (TK.of_same (Same.new ht2 _)) g1))) ht3
      · rintro σ' H3 ⟨rv', rs', rfl, ps3, okr', cr', tr'⟩
        refine ⟨_, rfl, .inl ⟨rfl, _, SqL.of ps3.xA⟩, _, rfl, _, rfl, by show 2 ≤ sizeLine; decide, fun t ht => ?_⟩
        have ps4 := ps3.new ne ht (o := .tup [.str nm, rv'])
        have tp : Tn K (upd H3 t (.tup [.str nm, rv'])) (.ref t) (Td.pairD (nm, rs')) := Tn.new (.cons (.str nm) (TnAll.one tr')) ht
        refine ⟨pD, _, _, rfl, rfl, ps4.xA, small1000 (by omega), ?_⟩
        have ps5 := ps4.app ne tp
        obtain ⟨pc, c1, c2, c3, c4⟩ := ps5.dA
        refine ⟨_, rfl, pd, _, rfl, dget_of c1 (get_cells ..), _, rfl, by show 1 ≤ sizeLine; decide, fun l hl => ?_⟩
        have ps6 := ps5.new ne hl (o := .lst [.str nm])
        refine ⟨pc, l, _, _, rfl, rfl, by rw [upd_ne (ne_of_none c2 hl)]; exact c2, upd_same, Nat.le_of_lt (small1000 ?_), fun l2 hl2 => ?_⟩
        · rw [List.length_map, List.length_append, List.length_map]; show srcs.length + ds.length + 1 ≤ 1000; omega
        have ps7 := ps6.new ne hl2 (o := .lst ((srcs ++ ds.map (·.1)).map V.str ++ [.str nm]))
        obtain ⟨pc', e1, e2, e3, e4⟩ := ps7.dA
        refine ⟨_, rfl, pd, _, rfl, DPut.k (k := Sum.inr "cells") e1 (small1000 (by show 7 ≤ 1000; decide)), ?_⟩
        rw [shp7_cells]
        have er : (srcs ++ ds.map (·.1)).map V.str ++ [V.str nm] = (srcs ++ (ds ++ [(nm, rs')]).map (·.1)).map V.str := by simp
        have ps8 := ps7.put (kd' := .str "derived") (pk' := .bl false) (wr' := .bl false) (rd' := srcs ++ (ds ++ [(nm, rs')]).map (·.1)) (pc' := l2) ne (by rw [upd_same, er])
          (ps6.ok.ne hl2).1 (Ne.symm (ne_of_none ps6.xA hl2))
        refine ⟨_, _, _, _, ds ++ [(nm, rs')], rfl, ps8, by rw [List.length_append, dl]; rfl, ?_, okDer_snoc dok okr' cr'⟩
        rw [List.map_append, dn]
        have hx : i < (ns.drop (1 + ms).toNat).length := by rw [List.length_drop]; omega
        rw [List.take_succ_eq_append_getElem hx, List.getElem_drop, hnm]
        rfl
    · rintro σ H1 ⟨v14, v15, v16, xs, ds, rfl, ps, dl, dn, dok⟩
      -- the shape of effects
      obtain ⟨pc, c1, c2, c3, c4⟩ := ps.dA
      refine ⟨_, rfl, pd, _, rfl, DPut.k (k := Sum.inr "kind") c1 (small1000 (by show 7 ≤ 1000; decide)), ?_⟩
      rw [shp7_kind]
      have ps1 := ps.put (kd' := .str "effects") (pk' := .bl false) (wr' := .bl false) ne c2 c3 c4
      refine ⟨_, rfl, _, rfl, pd, _, rfl, DPut.k (k := Sum.inr "peeks") upd_same (small1000 (by show 7 ≤ 1000; decide)), ?_⟩
      rw [shp7_peeks, upd_upd]
      refine ⟨_, rfl, _, rfl, pd, _, rfl, DPut.k (k := Sum.inr "writes") upd_same (small1000 (by show 7 ≤ 1000; decide)), ?_⟩
      rw [shp7_writes, upd_upd]
      have ps3 := ps.put (kd' := .str "effects") (pk' := .bl pk) (wr' := .bl wr) ne c2 c3 c4
      refine ⟨Nat.zero_le _, fun pE hpE => ?_⟩
      show tSeq _ _ _ _ (upd (upd H1 pd (.dK (shp7 (.str "effects") (.ref pc) (.ref p4) (.ref p2) (.ref aw) (.bl pk) (.bl wr)))) pE (.lst []))
      generalize upd H1 pd (.dK (shp7 (.str "effects") (.ref pc) (.ref p4) (.ref p2) (.ref aw) (.bl pk) (.bl wr))) = H2 at ps3 hpE
      obtain ⟨npE, npEc⟩ := ps3.ok.ne hpE
      have nDE : pD ≠ pE := ne_of_none ps3.xA hpE
      have nE : PNe H st sc aw pN p2 p4 pd pE := ⟨naw, pNs, np2, np4, npd, npE, npdc, npEc, d0, ps3.kp.free npE hpE, ne_of_none ps3.nA hpE, ne_of_none ps3.lA hpE⟩
      have pe0 : PSt K H (upd H2 pE (.lst [])) st sc aw pN p2 p4 pd pE ws srcs slots ns (.str "effects") (.bl pk) (.bl wr) (srcs ++ ds.map (·.1)) [] [] := by
        have pn := ps3.new ne hpE (o := .lst [])
        obtain ⟨pc', e1, e2, e3, e4⟩ := ps3.dA
        exact ⟨pn.kp, pn.ok, pn.wA, pn.sA, pn.nA, pn.lA, ⟨pc', (Keep.new hpE (st := st)) _ _ npd e1, (Keep.new hpE (st := st)) _ _ e3 e2, e3, ne_of_none e2 hpE⟩, upd_same, .nil⟩
      have xl : xs.length = ds.length := by rw [ps.tA.length, List.length_map]
      have ddl : ds.length ≤ 6 := by omega
      refine ⟨_, rfl, me, rfl, by omega, by omega, for_range (lo := 0) (n := me.toNat) (fun i σ H' => ∃ (v14 v16 : Option V) (ys : List V) (es : List (Str × List Td.Row)),
        σ = [some (.ref st), some (.ref z), some (.bl pk), some (.bl wr), some (.int (2 + mw)), some (.int (1 + ms)), some (.int md), some (.int me), some (.ref aw), some (.ref pN), some (.ref p2), some (.ref p4), some (.ref pd), some (.ref pD), v14, v15, v16, some (.ref pE)] ∧
        PSt K H H' st sc aw pN p2 p4 pd pE ws srcs slots ns (.str "effects") (.bl pk) (.bl wr) (srcs ++ ds.map (·.1)) ys es ∧ H' pD = some (.lst xs) ∧ TnAll K H' xs (ds.map Td.pairD) ∧ es.length = i ∧ es.map (·.1) = (ns.drop ((1 + ms).toNat + md.toNat)).take i ∧ okEff ws srcs (srcs ++ ds.map (·.1)) (a4.toNat + 1) es)
        ⟨v14, v16, [], [], rfl, pe0, by rw [upd_ne nDE]; exact ps3.xA, TnAll.keep (TK.of_same (Same.new hpE _)) ps3.tA, rfl, by simp, by unfold okEff; trivial⟩ ?_ ?_⟩
      · rintro i σ H3 hi ⟨v14, v16, ys, es, rfl, pe, sX, sT, el, en, eok⟩
        have hil : (1 + ms).toNat + md.toNat + i < ns.length := by omega
        have hat : atI (ns.map V.str) (1 + ms + md + (0 + (i : Int))) = some (V.str ns[(1 + ms).toNat + md.toNat + i]) := by
          have : atI (ns.map V.str) (((1 + ms).toNat + md.toNat + i : Nat) : Int) = some (V.str ns[(1 + ms).toNat + md.toNat + i]) := atI_nat (by rw [List.getElem?_map, List.getElem?_eq_getElem hil]; rfl)
          rwa [show (((1 + ms).toNat + md.toNat + i : Nat) : Int) = 1 + ms + md + (0 + (i : Int)) by omega] at this
        generalize hnm : ns[(1 + ms).toNat + md.toNat + i] = nm at hat
        have yl : ys.length = es.length := by rw [pe.tA.length, List.length_map]
        have sh := pe.shape (eff := true) nE (fun _ => rfl) (fun _ => rfl) w0 sl0 (by simp [so0]) so0 ⟨w100, by omega, by rw [List.length_append, List.length_map]; omega, sr100⟩ slg
        refine ⟨_, rfl, _, rfl, _, rfl, z, _, 4, _, rfl, rfl, SqT.keep pe.kp nz hz, rfl, st, sc, pd, _, slots, 1, a4, rfl, pe.ok, sh, by decide, by decide, a40, by omega, fun rv rs H4 k4 o4 okr cr tr => ?_⟩
        have pe4 := pe.keep nE k4 o4
        have sX4 := k4 _ _ npD sX
        have sT4 := TnAll.keep (TK.of_keep k4 pe.ok.chg) sT
        refine ⟨fun σ' H' => ∃ (rv' : V) (rs' : List Td.Row), σ' = [some (.ref st), some (.ref z), some (.bl pk), some (.bl wr), some (.int (2 + mw)), some (.int (1 + ms)), some (.int md), some (.int me), some (.ref aw), some (.ref pN), some (.ref p2), some (.ref p4), some (.ref pd), some (.ref pD), some (.int (0 + (i : Int))), v15, some rv', some (.ref pE)] ∧
          PSt K H H' st sc aw pN p2 p4 pd pE ws srcs slots ns (.str "effects") (.bl pk) (.bl wr) (srcs ++ ds.map (·.1)) ys es ∧ H' pD = some (.lst xs) ∧ TnAll K H' xs (ds.map Td.pairD) ∧ okRs ⟨true, ws, srcs, srcs ++ ds.map (·.1)⟩ 1 rs' ∧ Lim true (a4.toNat + 1) rs' ∧ Tn K H' rv' (.tuple (rowsD rs')), ?_, ?_⟩
        · refine ⟨_, rfl, st, sc, 4, rfl, by decide, by decide, o4, fun x H5 x0 x1 k5 o5 _ => ⟨_, _, rfl, rfl, _, rfl, ?_⟩⟩
          have pe5 := pe4.keep nE k5 o5
          have tr5 := Tn.keep (TK.of_keep k5 o4.chg) tr
          have sX5 := k5 _ _ npD sX4
          have sT5 := TnAll.keep (TK.of_keep k5 o4.chg) sT4
          refine ite2 (fun _ => ?_) (fun _ => ⟨rv, rs, rfl, pe5, sX5, sT5, okr, ⟨by omega, rs, [], (List.append_nil rs).symm, by omega, .inl rfl⟩, tr5⟩)
          obtain ⟨ar, us, rfl, hS5, hT5⟩ := Tn.tup_inv tr5
          have ul : us.length = rs.length := by rw [hT5.length, rowsD_length]
          have := cnts_len rs
          refine ⟨_, rfl, _, rfl, _, rfl, st, sc, 3, rfl, by decide, by decide, o5, fun y H6 y0 y1 k6 o6 _ => ?_⟩
          have pe6 := pe5.keep nE k6 o6
          obtain ⟨sl, hsl, esl⟩ := pick (xs := slots) y0 (by rw [List.length_map]; omega)
          refine ⟨p2, _, y, _, rfl, rfl, SqL.of pe6.lA, esl, by show 2 ≤ sizeLine; decide, fun t1 ht1 => ⟨by show 1 ≤ sizeLine; decide, fun t2 ht2 => ?_⟩⟩
          have g1 : Tn K (upd H6 t1 (.tup [.str "say", .str sl])) (.ref t1) (rowD (.say sl)) := by unfold rowD; exact Tn.new (TnAll.strs ["say", sl]) ht1
          have g2 := Tn.new (TnAll.one g1) ht2
          have pe7 := (pe6.new nE ht1 (o := .tup [.str "say", .str sl])).new nE ht2 (o := .tup [.ref t1])
          have kx : Keep st H5 (upd (upd H6 t1 (.tup [.str "say", .str sl])) t2 (.tup [.ref t1])) := (k6.trans (Keep.new ht1)).trans (Keep.new ht2)
          have tkx := TK.of_keep kx o5.chg
          have sX7 := kx _ _ npD sX5
          have sT7 := TnAll.keep tkx sT5
          have okg : okRs ⟨true, ws, srcs, srcs ++ ds.map (·.1)⟩ 1 (rs ++ [Td.Row.say sl]) := okRs_append okr (okRs_one (by unfold okR; exact ⟨rfl, slg sl hsl⟩))
          have cg : Lim true (a4.toNat + 1) (rs ++ [Td.Row.say sl]) := ⟨by rw [cnts_append, cnts_one]; show cnts rs + 1 ≤ _; omega, rs, [.say sl], rfl, by omega, .inr ⟨sl, rfl⟩⟩
          refine ⟨ar, t2, us, [.ref t1], rfl, rfl, SqT.tk tkx hS5, SqT.of upd_same, Nat.le_of_lt (small1000 (by show us.length + 1 ≤ 1000; omega)), fun e => ?_, fun _ e => (by cases e), fun _ _ t3 ht3 => ?_⟩
          · have er : rs = [] := by
              rw [e] at ul
              exact List.length_eq_zero_iff.mp ul.symm
            refine ⟨_, rs ++ [.say sl], rfl, pe7, sX7, sT7, okg, cg, ?_⟩
            rw [er]
            exact g2
          · refine ⟨_, rs ++ [.say sl], rfl, pe7.new nE ht3, (Keep.new ht3 (st := st)) _ _ npD sX7, TnAll.keep (TK.of_same (Same.new ht3 _)) sT7, okg, cg, ?_⟩
            rw [rowsD_append, rowsD_one]
            exact Tn.new (TnAll.append (TnAll.keep tkx hT5) (TnAll.one (Tn.keep (TK.of_same (Same.new ht2 _)) g1))) ht3
        · rintro σ' H5 ⟨rv', rs', rfl, pe5, sX5, sT5, okr', cr', tr'⟩
          refine ⟨_, rfl, .inl ⟨rfl, _, SqL.of pe5.xA⟩, _, rfl, _, rfl, _, rfl, _, _, rfl, rfl, _, rfl, _, _, rfl, rfl, pN, _, _, _, rfl, rfl, SqL.of pe5.nA, hat, _, rfl, by show 2 ≤ sizeLine; decide, fun t ht => ?_⟩
          have pe6 := pe5.new nE ht (o := .tup [.str nm, rv'])
          have tp : Tn K (upd H5 t (.tup [.str nm, rv'])) (.ref t) (Td.pairD (nm, rs')) := Tn.new (.cons (.str nm) (TnAll.one tr')) ht
          refine ⟨pE, _, _, rfl, rfl, pe6.xA, small1000 (by omega), ?_⟩
          have pe7 := pe6.app nE tp
          have sX6 : upd H5 t (.tup [.str nm, rv']) pD = some (.lst xs) := (Keep.new ht (st := st)) _ _ npD sX5
          have sT6 := TnAll.keep (TK.of_same (Same.new ht (.tup [.str nm, rv']))) sT5
          refine ⟨_, _, _, es ++ [(nm, rs')], rfl, pe7, by rw [upd_ne nDE]; exact sX6, TnAll.keep (TK.upd (by rw [pe6.xA]; trivial)) sT6, by rw [List.length_append, el]; rfl, ?_, okEff_snoc eok okr' cr'⟩
          rw [List.map_append, en]
          have hx : i < (ns.drop ((1 + ms).toNat + md.toNat)).length := by rw [List.length_drop]; omega
          rw [List.take_succ_eq_append_getElem hx, List.getElem_drop, hnm]
          rfl
      · rintro σ H3 ⟨v14, v16, ys, es, rfl, pe, sX, sT, el, en, eok⟩
        have yl : ys.length = es.length := by rw [pe.tA.length, List.length_map]
        refine ⟨_, rfl, _, rfl, _, rfl, pD, _, rfl, .inl ⟨SqL.of sX, fun t1 ht1 => ?_⟩⟩
        have pe1 := pe.new nE ht1 (o := .tup xs)
        refine ⟨_, rfl, pE, _, rfl, .inl ⟨SqL.of pe1.xA, fun t2 ht2 => ?_⟩⟩
        have pe2 := pe1.new nE ht2 (o := .tup ys)
        refine ⟨by show 4 ≤ sizeLine; decide, fun t3 ht3 => ?_⟩
        have pe3 := pe2.new nE ht3 (o := .tup [.ref aw, .ref p4, .ref t1, .ref t2])
        have tD : Tn K (upd (upd H3 t1 (.tup xs)) t2 (.tup ys)) (.ref t1) (pairsD ds) := Tn.keep (TK.of_same (Same.new ht2 _)) (Tn.new sT ht1)
        have tE : Tn K (upd (upd H3 t1 (.tup xs)) t2 (.tup ys)) (.ref t2) (pairsD es) := Tn.new pe1.tA ht2
        refine q _ ⟨ws, srcs, ds, es⟩ _ pe3.kp pe3.ok ⟨by show 2 ≤ ws.length; omega, by show ws.length ≤ 4; omega, by show 1 ≤ srcs.length; omega, by show srcs.length ≤ 4; omega, ddl, by show es.length ≤ 4; omega, wN, ?_, dok, eok⟩ (by show (srcs.length : Int) ≤ a1; omega) ?_
        · have e : PP.names ⟨ws, srcs, ds, es⟩ = ns := by
            show srcs ++ ds.map (·.1) ++ es.map (·.1) = ns
            rw [dn, en, ← hse]
            have h1 := List.take_append_drop (1 + ms).toNat ns
            have h2 := List.take_append_drop md.toNat (ns.drop (1 + ms).toNat)
            rw [List.drop_drop] at h2
            have h3 : (ns.drop ((1 + ms).toNat + md.toNat)).take me.toNat = ns.drop ((1 + ms).toNat + md.toNat) := List.take_of_length_le (by rw [List.length_drop]; omega)
            rw [h3, List.append_assoc, h2, h1]
          rw [e]; exact nN
        · have k23 : TK (upd (upd H3 t1 (.tup xs)) t2 (.tup ys)) (upd (upd (upd H3 t1 (.tup xs)) t2 (.tup ys)) t3 (.tup [.ref aw, .ref p4, .ref t1, .ref t2])) := TK.of_same (Same.new ht3 _)
          exact ⟨t3, aw, p4, .ref t1, .ref t2, rfl, SqT.of upd_same, pe3.wA, pe3.sA, Tn.keep k23 tD, Tn.keep k23 tE⟩
end
end K80
namespace K80
open PySem PySem.Spec PyProof.Rows L2 Td
/-! ### names and pairs that are right -/
def spIsName : Sp := fun vs H Q _ => ∃ z, vs = [.str z] ∧ isNm z = true ∧ ∀ H', Same H H' → Q (.bl true) H'
def spAreNames (K : PySem.W.Frag) : Sp := fun vs H Q _ => ∃ (a : Addr) (zs : List Str) (l m : Int), vs = [.ref a, .int l, .int m] ∧ SqT K H a (zs.map V.str) ∧ Names zs ∧ l ≤ zs.length ∧ (zs.length : Int) ≤ m ∧ zs.length ≤ 100 ∧
  ∀ H', Same H H' → Q (.bl true) H'
def spNamedPairs (K : PySem.W.Frag) : Sp := fun vs H Q _ => ∃ (v : V) (tk : Addr) (ps : List (Str × List Td.Row)) (ts : List Str) (m : Int), vs = [v, .int m, .ref tk] ∧ Tn K H v (pairsD ps) ∧ SqT K H tk (ts.map V.str) ∧
  Names (ts ++ ps.map (·.1)) ∧ (ps.length : Int) ≤ m ∧ ps.length ≤ 100 ∧ ts.length ≤ 100 ∧ ∀ H', Same H H' → Q (.bl true) H'
def spNamesOf (K : PySem.W.Frag) : Sp := fun vs H Q _ => ∃ (v : V) (ps : List (Str × List Td.Row)), vs = [v] ∧ Tn K H v (pairsD ps) ∧ ps.length ≤ 100 ∧
  ∀ (p : Addr) H', Same H H' → SqT K H' p (ps.map fun q => V.str q.1) → Q (.ref p) H'
theorem isNm_len {z : Str} (h : isNm z = true) : 1 ≤ z.length ∧ z.length ≤ 8 ∧ z.cps.toList.all lowc = true := by
  unfold isNm at h
  simp only [Bool.and_eq_true, decide_eq_true_eq] at h
  exact ⟨h.1.1, h.1.2, h.2⟩
theorem ty_tup {K : PySem.W.Frag} {H : Hp} {a : Addr} {xs : List V} (h : SqT K H a xs) : TyX K H (.ref a) (.type "tuple") := by
  rcases h with (h | ⟨o, h⟩) | ⟨o, its, n, h, c, _⟩
  · exact .base (.tup h)
  · exact .fTuple h
  · exact .kTuple h c
/-- the pairs' items -/
theorem pairs_at {K : PySem.W.Frag} {H : Hp} {v : V} {ps : List (Str × List Td.Row)} (h : Tn K H v (pairsD ps)) : ∃ (a : Addr) (xs : List V), v = .ref a ∧ SqT K H a xs ∧ xs.length = ps.length ∧
    ∀ (i : Nat) (x : V), xs[i]? = some x → ∃ (q : Str × List Td.Row) (b : Addr) (vr : V), ps[i]? = some q ∧ x = .ref b ∧ SqT K H b [.str q.1, vr] ∧ Tn K H vr (.tuple (rowsD q.2)) := by
  obtain ⟨a, xs, rfl, hS, hT⟩ := Tn.tup_inv h
  have hl := hT.length
  rw [List.length_map] at hl
  refine ⟨a, xs, rfl, hS, hl, fun i x hx => ?_⟩
  have hi : i < ps.length := by rw [← hl]; exact (List.getElem?_eq_some_iff.mp hx).1
  obtain ⟨d, h1, h2⟩ := TnAll.get hT hx
  rw [List.getElem?_map, List.getElem?_eq_getElem hi] at h1
  cases h1
  obtain ⟨b, ys, rfl, hS2, hT2⟩ := Tn.tup_inv h2
  cases hT2 with
  | cons c1 c2 =>
    cases c1
    cases c2 with
    | cons c3 c4 =>
      cases c4
      exact ⟨_, b, _, List.getElem?_eq_getElem hi, rfl, hS2, c3⟩
section
variable {P : Program} {w : World} {K : PySem.W.Frag} {mg : Str → Option Value} {base : Heap}
theorem ok_is_name (T : Tops w K mg) : FnOk P w K mg base CX0 1 T.a_is_name T.d_is_name ["value"] spIsName := by
  refine T.F_is_name.ok sc_is_name (fun vs H Q E h => ?_) (fun cdv A outer s H vs Q E hr h => ?_)
  · obtain ⟨z, rfl, _⟩ := h
    rfl
  obtain ⟨z, rfl, hz, q⟩ := h
  obtain ⟨z1, z8, zl⟩ := isNm_len hz
  refine ⟨_, (pss_cons (ps_if (PW.pt (pw_or (pt_not (pt_val (pe_callB call_isi rfl T.z_isinstance (by decide +kernel) (pa_cons (pv 0) (pa_cons (pe_bltn (v := .ty "str") rfl T.z_str (by decide +kernel) rfl) pa_nil))))) (pw_or1 (pt_not (pt_chain op_le op_le pe_int (pe_callB call_len rfl T.z_len PySem.boot_len (pa_cons (pv 0) pa_nil)) (pe_glob (v := .int 8) rfl T.c_LONGEST_NAME ⟨_, rfl⟩)))))) (pss_one (ps_ret pe_bl)) pss_nil)
    (pss_one (ps_ret (pe_callB (cr_all rfl) rfl T.z_all (by decide +kernel) (pa_cons (pe_lc (own := [("letter", 1)]) (g := gName 1) (tt := tYes) rfl sc_is_name.nd (pi_str (pv 0)) (blkOk_by (own := [("letter", 1)]) (N := N_is_name) (sc := defScope s_is_name) (by decide +kernel)) (fun _ _ _ _ _ => (pg_name (i := 1) sc_is_name.nd rfl (Or.inl rfl))) (fun _ _ _ _ _ => pts_nil) (fun _ _ _ _ _ => (pe_chain op_le_str op_le_str pe_str (pv 1) pe_str))) pa_nil))))), ?_⟩
  have zs : z.length ≤ sizeLine := Nat.le_of_lt (small1000 (by omega))
  refine ⟨_, rfl, .str z, .ty "str", .type "str", .type "str", true, rfl, .ty _, .base (.str z), kit_ty (by decide +kernel), true, rfl, iteF ?_⟩
  refine ⟨_, rfl, .str z, _, rfl, ⟨zs, rfl⟩, _, _, rfl, rfl, _, rfl, ?_⟩
  have e1 : decide ((1 : Int) ≤ (z.length : Int)) = true := decide_eq_true (by omega)
  refine if_true_of e1 ?_
  have e2 : decide ((z.length : Int) ≤ (8 : Int)) = true := decide_eq_true (by omega)
  refine ⟨_, _, rfl, rfl, _, rfl, ?_⟩
  refine if_false_of (by rw [e2]; rfl) ?_
  -- all([..])
  refine ⟨_, rfl, z, rfl, fun D hD => lc_str (fun i H' => ∃ bs : List Bool, Same H H' ∧ H' D = some (.lst (bs.map V.bl)) ∧ bs.length = i ∧ bs.all id = true) ⟨[], Same.new hD _, upd_same, rfl, rfl⟩ ?_ ?_⟩
  · rintro i c H' hc ⟨bs, hs, hb, hl, ha⟩
    have hlow : lowc c = true := by
      rw [List.all_eq_true] at zl
      exact zl c (by rw [Array.mem_toList_iff]; exact Array.mem_of_getElem? hc)
    unfold lowc at hlow
    simp only [Bool.and_eq_true, decide_eq_true_eq] at hlow
    have na : ("a" : Str).cps.toList = [97] := by decide +kernel
    have nz : ("z" : Str).cps.toList = [122] := by decide +kernel
    have k1 : (!decide ((⟨#[c]⟩ : Str).cps.toList < ("a" : Str).cps.toList)) = true := by
      rw [na]
      show (!decide ([c] < [97])) = true
      simp [List.cons_lt_cons_iff]
      omega
    have k2 : (!decide (("z" : Str).cps.toList < (⟨#[c]⟩ : Str).cps.toList)) = true := by
      rw [nz]
      show (!decide ([122] < [c])) = true
      simp [List.cons_lt_cons_iff]
      omega
    have hic : i < z.cps.size := (Array.getElem?_eq_some_iff.mp hc).1
    have hz8 : z.cps.size ≤ 8 := z8
    refine ⟨rfl, ?_⟩
    refine tYes_of ?_
    refine ⟨_, rfl, _, _, rfl, rfl, _, rfl, if_true_of k1 ?_⟩
    refine ⟨_, _, rfl, rfl, _, hb, small1000 (by rw [List.length_map]; omega), bs ++ [true], ?_, ?_, by rw [List.length_append, hl]; rfl, ?_⟩
    · intro b o e
      rw [upd_ne (ne_of_none e hD)]
      exact hs b o e
    · rw [upd_same, k2, List.map_append]; rfl
    · rw [List.all_append, ha]; rfl
  · rintro H' ⟨bs, hs, hb, hl, ha⟩
    refine ⟨D, bs, rfl, SqL.of hb, ?_⟩
    rw [ha]
    exact q H' hs
theorem ok_are_names (T : Tops w K mg) (G_is_name : FnOk P w K mg base CX0 1 T.a_is_name T.d_is_name ["value"] spIsName) :
    FnOk P w K mg base CX0 2 T.a_are_names T.d_are_names ["value", "least", "most"] (spAreNames K) := by
  refine T.F_are_names.ok sc_are_names (fun vs H Q E h => ?_) (fun cdv A outer s H vs Q E hr h => ?_)
  · obtain ⟨a, zs, l, m, rfl, _⟩ := h
    rfl
  obtain ⟨a, zs, l, m, rfl, hS, hN, hl, hm, h100, q⟩ := h
  refine ⟨_, (pss_cons (ps_if (PW.pt (pw_or (pt_not (pt_val (pe_callB call_isi rfl T.z_isinstance (by decide +kernel) (pa_cons (pv 0) (pa_cons (pe_bltn (v := .ty "tuple") rfl T.z_tuple (by decide +kernel) rfl) pa_nil))))) (pw_or1 (pt_not (pt_chain op_le op_le (pv 1) (pe_callB call_len rfl T.z_len PySem.boot_len (pa_cons (pv 0) pa_nil)) (pv 2)))))) (pss_one (ps_ret pe_bl)) pss_nil)
    (pss_one (ps_ret (pe_and (pe_callB (cr_all rfl) rfl T.z_all (by decide +kernel) (pa_cons (pe_lc (own := [("item", 3)]) (g := gName 3) (tt := tYes) rfl sc_are_names.nd (pi_tup (pv 0)) (blkOk_by (own := [("item", 3)]) (N := N_are_names) (sc := defScope s_are_names) (by decide +kernel)) (fun _ _ _ _ _ => (pg_name (i := 3) sc_are_names.nd rfl (Or.inl rfl))) (fun _ _ _ _ _ => pts_nil) (fun _ _ _ _ _ => (pe_call G_is_name (hr.mono (by omega)) rfl T.m_is_name T.F_is_name.kp T.b_is_name .nil pass0 (pa_cons (pv 3) pa_nil)))) pa_nil)) (pe_one (pe_cmpR op_eq (pe_lenSetT rfl rfl T.z_len rfl T.z_set (pv 0)) (pe_callB call_len rfl T.z_len PySem.boot_len (pa_cons (pv 0) pa_nil)) (nomark _))))))), ?_⟩
  refine ⟨_, rfl, .ref a, .ty "tuple", .type "tuple", .type "tuple", true, rfl, .ty _, ty_tup hS, kit_ty (by decide +kernel), true, rfl, iteF ?_⟩
  have e0 : (zs.map V.str).length = zs.length := List.length_map _
  refine ⟨_, rfl, _, rfl, .ref a, _, rfl, .inr ⟨_, hS, rfl⟩, _, _, rfl, rfl, _, rfl, ?_⟩
  have e1 : decide (l ≤ (((zs.map V.str).length : Nat) : Int)) = true := decide_eq_true (by omega)
  refine if_true_of e1 ?_
  have e2 : decide ((((zs.map V.str).length : Nat) : Int) ≤ m) = true := decide_eq_true (by omega)
  refine ⟨_, rfl, _, _, rfl, rfl, _, rfl, ?_⟩
  refine if_false_of (by rw [e2]; rfl) ?_
  refine ⟨_, rfl, a, rfl, ⟨_, hS⟩, fun D hD => lc_tup (K := K) (a := a) (xs := zs.map V.str) (fun i H' => ∃ bs : List Bool, Same H H' ∧ H' D = some (.lst (bs.map V.bl)) ∧ bs.length = i ∧ bs.all id = true)
    ⟨[], Same.new hD _, upd_same, rfl, rfl⟩ (fun i H' _ ⟨_, hs, _⟩ => SqT.same hs hS) ?_ ?_⟩
  · rintro i x H' hx ⟨bs, hs, hb, hl', ha⟩
    rw [List.getElem?_map] at hx
    obtain ⟨z, hz, rfl⟩ := Option.map_eq_some_iff.mp hx
    have hi : i < zs.length := (List.getElem?_eq_some_iff.mp hz).1
    refine ⟨rfl, ?_⟩
    refine tYes_of ?_
    refine ⟨_, rfl, z, rfl, hN.good z (List.mem_of_getElem? hz), fun H4 s4 => ⟨_, s4 _ _ hb, small1000 (by rw [List.length_map]; omega), bs ++ [true], ?_, by rw [upd_same, List.map_append]; rfl, by rw [List.length_append, hl']; rfl, by rw [List.all_append, ha]; rfl⟩⟩
    intro b o e
    rw [upd_ne (ne_of_none e hD)]
    exact s4 _ _ (hs b o e)
  · rintro H' ⟨bs, hs, hb, hl', ha⟩
    have hS' := SqT.same hs hS
    refine ⟨D, bs, rfl, SqL.of hb, _, rfl, ?_⟩
    refine if_true_of ha ?_
    refine ⟨_, rfl, a, zs, rfl, hS', by omega, _, rfl, .ref a, _, rfl, .inr ⟨_, hS', rfl⟩, rfl, ?_⟩
    have e3 : TdSet.dcnt zs zs.length = zs.length := TdSet.dcnt_nodup (Nat.le_refl _) (by rw [List.take_length]; exact hN.nd)
    have e4 : decide (V.int (TdSet.dcnt zs zs.length : Nat) = V.int (((zs.map V.str).length : Nat) : Int)) = true := by rw [e3, e0]; exact decide_eq_true rfl
    rw [e4]
    exact q H' hs
theorem ok_named_pairs (T : Tops w K mg) (G_is_name : FnOk P w K mg base CX0 1 T.a_is_name T.d_is_name ["value"] spIsName) :
    FnOk P w K mg base CX0 2 T.a_are_named_pairs T.d_are_named_pairs ["value", "most", "taken"] (spNamedPairs K) := by
  refine T.F_are_named_pairs.ok sc_are_named_pairs (fun vs H Q E h => ?_) (fun cdv A outer s H vs Q E hr h => ?_)
  · obtain ⟨v, tk, ps, ts, m, rfl, _⟩ := h
    rfl
  obtain ⟨v, tk, ps, ts, m, rfl, hT, hS, hN, hm, h100, t100, q⟩ := h
  obtain ⟨a, xs, rfl, hA, hl, hx⟩ := pairs_at hT
  refine ⟨_, (pss_cons (ps_if (PW.pt (pw_or (pt_not (pt_val (pe_callB call_isi rfl T.z_isinstance (by decide +kernel) (pa_cons (pv 0) (pa_cons (pe_bltn (v := .ty "tuple") rfl T.z_tuple (by decide +kernel) rfl) pa_nil))))) (pw_or1 (pt_cmpR op_gt (pe_callB call_len rfl T.z_len PySem.boot_len (pa_cons (pv 0) pa_nil)) (pv 1) (nomark _))))) (pss_one (ps_ret pe_bl)) pss_nil)
    (pss_cons (ps_set (i := 3) sc_are_named_pairs.nd rfl (Or.inl rfl) (pe_callTy call_list_of rfl T.z_list (by decide +kernel) (pa_cons (pv 2) pa_nil)))
    (pss_cons (ps_for PassesOwn.never rfl (pi_tup (pv 0)) (pg_name (i := 4) sc_are_named_pairs.nd rfl (Or.inl rfl)) (pss_cons (ps_if (PW.pt (pw_or (pt_not (pt_val (pe_callB call_isi rfl T.z_isinstance (by decide +kernel) (pa_cons (pv 4) (pa_cons (pe_bltn (v := .ty "tuple") rfl T.z_tuple (by decide +kernel) rfl) pa_nil))))) (pw_or1 (pt_cmpR op_ne (pe_callB call_len rfl T.z_len PySem.boot_len (pa_cons (pv 4) pa_nil)) pe_int (nomark _))))) (pss_one (ps_ret pe_bl)) pss_nil)
    (pss_cons (ps_if (PW.pt (pw_or (pt_not (pt_val (pe_call G_is_name (hr.mono (by omega)) rfl T.m_is_name T.F_is_name.kp T.b_is_name .nil pass0 (pa_cons (pe_ix ix_tup (pv 4) pe_int (fun _ _ => rfl)) pa_nil)))) (pw_or1 (pt_cmpR op_in_seq (pe_ix ix_tup (pv 4) pe_int (fun _ _ => rfl)) (pv 3) (by rfl))))) (pss_one (ps_ret pe_bl)) pss_nil)
    (pss_one (ps_expr (pe_bm PySem.F.plainAttrs_list PySem.F.slot_list_append PySem.F.type_list_append mt_append (pv 3) (pa_cons (pe_ix ix_tup (pv 4) pe_int (fun _ _ => rfl)) pa_nil)))))))
    (pss_one (ps_ret pe_bl))))), ?_⟩
  refine ⟨_, rfl, .ref a, .ty "tuple", .type "tuple", .type "tuple", true, rfl, .ty _, ty_tup hA, kit_ty (by decide +kernel), true, rfl, iteF ?_⟩
  refine ⟨_, rfl, .ref a, _, rfl, .inr ⟨_, hA, rfl⟩, _, rfl, _, _, rfl, rfl, _, rfl, ?_⟩
  have e1 : decide (m < ((xs.length : Nat) : Int)) = false := decide_eq_false (by omega)
  refine if_false_of e1 ?_
  refine ⟨_, rfl, tk, _, rfl, .inr hS, fun l hl0 => ?_⟩
  refine ⟨_, rfl, a, rfl, ⟨_, SqT.same (Same.new hl0 _) hA⟩, for_tup (K := K) (a := a) (xs := xs) (fun i σ H' => ∃ v4 : Option V, σ = [some (.ref a), some (.int m), some (.ref tk), some (.ref l), v4] ∧ Same H H' ∧ H' l = some (.lst ((ts ++ (ps.take i).map (·.1)).map V.str)))
    ⟨none, rfl, Same.new hl0 _, by simpa using upd_same⟩ (fun i σ H' _ ⟨_, _, hs, _⟩ => SqT.same hs hA) ?_ ?_⟩
  · rintro i x σ H' hi ⟨v4, rfl, hs, hL⟩
    obtain ⟨qq, b, vr, hq, rfl, hB, hR⟩ := hx i x hi
    have hB' := SqT.same hs hB
    have hips : i < ps.length := (List.getElem?_eq_some_iff.mp hq).1
    refine ⟨_, rfl, .ref b, .ty "tuple", .type "tuple", .type "tuple", true, rfl, .ty _, ty_tup hB', kit_ty (by decide +kernel), true, rfl, iteF ?_⟩
    refine ⟨_, rfl, .ref b, _, rfl, .inr ⟨_, hB', rfl⟩, rfl, _, rfl, ?_⟩
    refine if_false_of (by show (!decide (V.int ((2 : Nat) : Int) = V.int 2)) = false; decide +kernel) ?_
    have hmem : qq.1 ∈ ps.map (·.1) := List.mem_map.mpr ⟨qq, List.mem_of_getElem? hq, rfl⟩
    refine ⟨_, rfl, b, _, 0, _, rfl, rfl, hB', rfl, qq.1, rfl, hN.good _ (List.mem_append_right _ hmem), fun H3 s3 => ⟨true, rfl, iteF ?_⟩⟩
    have hB3 := SqT.same s3 hB'
    have hL3 := s3 _ _ hL
    refine ⟨_, rfl, b, _, 0, _, rfl, rfl, hB3, rfl, _, rfl, l, _, rfl, .inl (SqL.of hL3), rfl, L2.flat_strs _, _, rfl, ?_⟩
    have hnot : qq.1 ∉ ts ++ (ps.take i).map (·.1) := by
      have e : ts ++ ps.map (·.1) = (ts ++ (ps.take i).map (·.1)) ++ (ps.drop i).map (·.1) := by
        rw [List.append_assoc, ← List.map_append, List.take_append_drop]
      have nd := hN.nd
      rw [e] at nd
      intro hin
      refine (List.nodup_append.mp nd).2.2 _ hin qq.1 ?_ rfl
      refine List.mem_map.mpr ⟨qq, ?_, rfl⟩
      have : (ps.drop i)[0]? = some qq := by rw [List.getElem?_drop]; exact hq
      exact List.mem_of_getElem? this
    refine if_false_of (by show (inV _ _) = false; rw [inV_strs]; exact decide_eq_false hnot) ?_
    refine ⟨_, rfl, .inl ⟨rfl, _, SqL.of hL3⟩, _, rfl, b, _, 0, _, rfl, rfl, hB3, rfl, l, _, _, rfl, rfl, hL3, small1000 ?_, ?_⟩
    · rw [List.length_map, List.length_append, List.length_map, List.length_take]; omega
    · refine ⟨_, rfl, fun b o e => ?_, ?_⟩
      · rw [upd_ne (ne_of_none e hl0)]
        exact s3 _ _ (hs b o e)
      · rw [upd_same, take_more hq]
        simp
  · rintro σ H' ⟨v4, rfl, hs, hL⟩
    exact q H' hs
theorem ok_names_of (T : Tops w K mg) : FnOk P w K mg base CX0 1 T.a_names_of T.d_names_of ["pairs"] (spNamesOf K) := by
  refine T.F_names_of.ok sc_names_of (fun vs H Q E h => ?_) (fun cdv A outer s H vs Q E hr h => ?_)
  · obtain ⟨v, ps, rfl, _⟩ := h
    rfl
  obtain ⟨v, ps, rfl, hT, h100, q⟩ := h
  obtain ⟨a, xs, rfl, hA, hl, hx⟩ := pairs_at hT
  refine ⟨_, (pss_one (ps_ret (pe_callTy call_tuple_of rfl T.z_tuple (by decide +kernel) (pa_cons (pe_lc (own := [("name", 1), ("_", 2)]) (g := gTup K 2 (gCons (gName 1) (gCons (gName 2) gNil))) (tt := tYes) rfl sc_names_of.nd (pi_tup (pv 0)) (blkOk_by (own := [("name", 1), ("_", 2)]) (N := N_names_of) (sc := defScope s_names_of) (by decide +kernel)) (fun _ _ _ _ _ => (pg_tup rfl (pgs_cons (pg_name (i := 1) sc_names_of.nd rfl (Or.inl rfl)) (pgs_cons (pg_name (i := 2) sc_names_of.nd rfl (Or.inl rfl)) pgs_nil)))) (fun _ _ _ _ _ => pts_nil) (fun _ _ _ _ _ => (pv 1))) pa_nil)))), ?_⟩
  refine ⟨_, rfl, a, rfl, ⟨_, hA⟩, fun D hD => lc_tup (K := K) (a := a) (xs := xs) (fun i H' => Same H H' ∧ H' D = some (.lst ((ps.take i).map fun q => V.str q.1)))
    ⟨Same.new hD _, by simpa using upd_same⟩ (fun i H' _ ⟨hs, _⟩ => SqT.same hs hA) ?_ ?_⟩
  · rintro i x H' hi ⟨hs, hb⟩
    obtain ⟨qq, b, vr, hq, rfl, hB, hR⟩ := hx i x hi
    have hB' := SqT.same hs hB
    have hips : i < ps.length := (List.getElem?_eq_some_iff.mp hq).1
    refine ⟨b, _, rfl, hB', rfl, _, _, rfl, _, _, rfl, rfl, rfl, ?_⟩
    refine tYes_of ?_
    refine ⟨_, rfl, _, hb, small1000 (by rw [List.length_map, List.length_take]; omega), fun c o e => ?_, ?_⟩
    · rw [upd_ne (ne_of_none e hD)]
      exact hs c o e
    · rw [upd_same, take_more hq, List.map_append]; rfl
  · rintro H' ⟨hs, hb⟩
    rw [hl, List.take_length] at hb
    refine ⟨D, _, rfl, .inl ⟨SqL.of hb, fun p hp => q p _ (hs.trans (Same.new hp _)) (SqT.of upd_same)⟩⟩
end
end K80
namespace K80
open PySem PySem.Spec PyProof.Rows L2 Td
/-! ### the rows of a body that is right -/
def kdS (eff : Bool) : Str := if eff then "effects" else "derived"
def scF (kd : Str) (aw as ar : Addr) : List (Str × V) := [("kind", .str kd), ("words", .ref aw), ("sources", .ref as), ("readable", .ref ar)]
theorem scF_put (kd : Str) (aw as ar : Addr) : putF "readable" (.ref ar) (putF "sources" (.ref as) (putF "words" (.ref aw) (putF "kind" (.str kd) []))) = scF kd aw as ar := by kernel_rfl
theorem scF_kind (kd : Str) (aw as ar : Addr) : (scF kd aw as ar).lookup ("kind" : Str) = some (.str kd) := by kernel_rfl
theorem scF_words (kd : Str) (aw as ar : Addr) : (scF kd aw as ar).lookup ("words" : Str) = some (.ref aw) := by kernel_rfl
theorem scF_sources (kd : Str) (aw as ar : Addr) : (scF kd aw as ar).lookup ("sources" : Str) = some (.ref as) := by kernel_rfl
theorem scF_readable (kd : Str) (aw as ar : Addr) : (scF kd aw as ar).lookup ("readable" : Str) = some (.ref ar) := by kernel_rfl
structure ScopeAt (K : PySem.W.Frag) (H : Hp) (C sa : Addr) (S : Sc) : Prop where
  ex : ∃ (dx aw as ar : Addr), H sa = some (.ins C dx (scF (kdS S.eff) aw as ar)) ∧ SqT K H aw (S.words.map V.str) ∧ SqT K H as (S.sources.map V.str) ∧ SqT K H ar (S.readable.map V.str)
theorem ScopeAt.same {K : PySem.W.Frag} {H H' : Hp} {C sa : Addr} {S : Sc} (h : ScopeAt K H C sa S) (s : Same H H') : ScopeAt K H' C sa S := by
  obtain ⟨dx, aw, as, ar, e, h1, h2, h3⟩ := h.ex
  exact ⟨dx, aw, as, ar, s _ _ e, SqT.same s h1, SqT.same s h2, SqT.same s h3⟩
def spScope (C : Addr) : Sp := fun vs H Q _ => ∃ (x dx aw as ar : Addr) (kd : Str), vs = [.ref x, .str kd, .ref aw, .ref as, .ref ar] ∧ H x = some (.ins C dx []) ∧ Q .non (upd H x (.ins C dx (scF kd aw as ar)))
def spRead (K : PySem.W.Frag) (C : Addr) : Sp := fun vs H Q _ => ∃ (v : V) (sa : Addr) (S : Sc) (pk : Bool) (c s : Str), vs = [v, .ref sa] ∧ Dp K H v (rowD (.rd pk c s)) ∧ ScopeAt K H C sa S ∧ c ∈ S.readable ∧ isNm s = true ∧ ∀ H', Same H H' → Q (.bl true) H'
def spPut (K : PySem.W.Frag) (C : Addr) : Sp := fun vs H Q _ => ∃ (v : V) (sa : Addr) (S : Sc) (s u : Str), vs = [v, .ref sa] ∧ Dp K H v (rowD (.put s u)) ∧ ScopeAt K H C sa S ∧ u ∈ S.words ∧ isNm s = true ∧ ∀ H', Same H H' → Q (.bl true) H'
def spIf (K : PySem.W.Frag) (C : Addr) : Sp := fun vs H Q _ => ∃ (v : V) (sa : Addr) (S : Sc) (s u : Str) (y n : List Td.Row), vs = [v, .ref sa] ∧ Dp K H v (rowD (.ite s u y n)) ∧ ScopeAt K H C sa S ∧ u ∈ S.words ∧ isNm s = true ∧ ∀ H', Same H H' → Q (.bl true) H'
def spSlot (K : PySem.W.Frag) (C : Addr) : Sp := fun vs H Q _ => ∃ (v : V) (sa : Addr) (S : Sc) (g : Bool) (s : Str), vs = [v, .ref sa] ∧ Dp K H v (rowD (if g then .give s else .say s)) ∧ ScopeAt K H C sa S ∧ isNm s = true ∧ ∀ H', Same H H' → Q (.bl true) H'
def spWrite (K : PySem.W.Frag) (C : Addr) : Sp := fun vs H Q _ => ∃ (v : V) (sa : Addr) (S : Sc) (c s : Str), vs = [v, .ref sa] ∧ Dp K H v (rowD (.wr c s)) ∧ ScopeAt K H C sa S ∧ c ∈ S.sources ∧ isNm s = true ∧ ∀ H', Same H H' → Q (.bl true) H'
theorem in_of {z : Str} {ws : List Str} (h : z ∈ ws) : inV (.str z) (ws.map V.str) = true := by rw [inV_strs]; exact decide_eq_true h
section
variable {P : Program} {w : World} {K : PySem.W.Frag} {mg : Str → Option Value} {base : Heap}
theorem ok_scope (T : Tops w K mg) : FnOk P w K mg base CX0 1 T.a_Scope_init T.d_Scope_init ["self", "kind", "words", "sources", "readable"] (spScope T.c_Scope) := by
  refine T.F_Scope_init.ok sc_Scope_init (fun vs H Q E h => ?_) (fun cdv A outer s H vs Q E hr h => ?_)
  · obtain ⟨x, dx, aw, as, ar, kd, rfl, _⟩ := h
    rfl
  obtain ⟨x, dx, aw, as, ar, kd, rfl, hx, q⟩ := h
  refine ⟨_, (pss_cons (ps_fld (pv 0) (pv 1) rfl)
    (pss_cons (ps_fld (pv 0) (pv 2) rfl)
    (pss_cons (ps_fld (pv 0) (pv 3) rfl)
    (pss_one (ps_fld (pv 0) (pv 4) rfl))))), ?_⟩
  refine ⟨_, rfl, _, rfl, x, T.c_Scope, dx, [], rfl, hx, T.l_Scope, T.n_Scope_kind, by show 0 < 1000; decide, ?_⟩
  refine ⟨_, rfl, _, rfl, x, T.c_Scope, dx, _, rfl, upd_same, T.l_Scope, T.n_Scope_words, by show 1 < 1000; decide, ?_⟩
  rw [upd_upd]
  refine ⟨_, rfl, _, rfl, x, T.c_Scope, dx, _, rfl, upd_same, T.l_Scope, T.n_Scope_sources, Nat.lt_of_le_of_lt (m := 2) (Nat.le_of_eq (by kernel_rfl)) (by decide), ?_⟩
  rw [upd_upd]
  refine ⟨_, rfl, _, rfl, x, T.c_Scope, dx, _, rfl, upd_same, T.l_Scope, T.n_Scope_readable, Nat.lt_of_le_of_lt (m := 3) (Nat.le_of_eq (by kernel_rfl)) (by decide), ?_⟩
  rw [upd_upd, scF_put]
  exact q
theorem ok_read (T : Tops w K mg) (G_is_name : FnOk P w K mg base CX0 1 T.a_is_name T.d_is_name ["value"] spIsName) : FnOk P w K mg base CX0 2 T.a_is_read_row T.d_is_read_row ["row", "scope"] (spRead K T.c_Scope) := by
  refine T.F_is_read_row.ok sc_is_read_row (fun vs H Q E h => ?_) (fun cdv A outer s H vs Q E hr h => ?_)
  · obtain ⟨v, sa, S, pk, c, s, rfl, _⟩ := h
    rfl
  obtain ⟨v, sa, S, pk, c, sl, rfl, hD, hSc, hc, hs, q⟩ := h
  obtain ⟨a, rfl, hS⟩ := rd_at hD
  obtain ⟨dx, aw, as, ar, e, h1, h2, h3⟩ := hSc.ex
  refine ⟨_, (pss_one (ps_ret (pe_and (pe_cmpR op_eq (pe_callB call_len rfl T.z_len PySem.boot_len (pa_cons (pv 0) pa_nil)) pe_int (nomark _)) (pe_and (pe_cmpR op_in_seq (pe_ix ix_tup (pv 0) pe_int (fun _ _ => rfl)) (pe_fld (pv 1) rfl) (by rfl)) (pe_one (pe_call G_is_name (hr.mono (by omega)) rfl T.m_is_name T.F_is_name.kp T.b_is_name .nil pass0 (pa_cons (pe_ix ix_tup (pv 0) pe_int (fun _ _ => rfl)) pa_nil))))))), ?_⟩
  refine ⟨_, rfl, .ref a, _, rfl, .inr ⟨_, hS, rfl⟩, rfl, _, rfl, if_true_of (by show decide (V.int ((3 : Nat) : Int) = V.int 3) = true; decide +kernel) ?_⟩
  refine ⟨_, rfl, a, _, 1, _, rfl, rfl, hS, rfl, _, rfl, sa, _, dx, _, _, rfl, e, T.l_Scope, T.n_Scope_readable, scF_readable .., ar, _, rfl, .inr h3, rfl, L2.flat_strs _, _, rfl, if_true_of (in_of hc) ?_⟩
  exact ⟨_, rfl, a, _, 2, _, rfl, rfl, hS, rfl, sl, rfl, hs, q⟩
theorem ok_put (T : Tops w K mg) (G_is_name : FnOk P w K mg base CX0 1 T.a_is_name T.d_is_name ["value"] spIsName) : FnOk P w K mg base CX0 2 T.a_is_put_row T.d_is_put_row ["row", "scope"] (spPut K T.c_Scope) := by
  refine T.F_is_put_row.ok sc_is_put_row (fun vs H Q E h => ?_) (fun cdv A outer s H vs Q E hr h => ?_)
  · obtain ⟨v, sa, S, s, u, rfl, _⟩ := h
    rfl
  obtain ⟨v, sa, S, sl, u, rfl, hD, hSc, hc, hs, q⟩ := h
  obtain ⟨a, rfl, hS⟩ := put_at hD
  refine ⟨_, (pss_one (ps_ret (pe_and (pe_cmpR op_eq (pe_callB call_len rfl T.z_len PySem.boot_len (pa_cons (pv 0) pa_nil)) pe_int (nomark _)) (pe_and (pe_call G_is_name (hr.mono (by omega)) rfl T.m_is_name T.F_is_name.kp T.b_is_name .nil pass0 (pa_cons (pe_ix ix_tup (pv 0) pe_int (fun _ _ => rfl)) pa_nil)) (pe_one (pe_cmpR op_in_seq (pe_ix ix_tup (pv 0) pe_int (fun _ _ => rfl)) (pe_fld (pv 1) rfl) (by rfl))))))), ?_⟩
  refine ⟨_, rfl, .ref a, _, rfl, .inr ⟨_, hS, rfl⟩, rfl, _, rfl, if_true_of (by show decide (V.int ((3 : Nat) : Int) = V.int 3) = true; decide +kernel) ?_⟩
  refine ⟨_, rfl, a, _, 1, _, rfl, rfl, hS, rfl, sl, rfl, hs, fun H1 s1 => ⟨_, rfl, iteT ?_⟩⟩
  obtain ⟨dx, aw, as, ar, e, h1, h2, h3⟩ := (hSc.same s1).ex
  refine ⟨_, rfl, a, _, 2, _, rfl, rfl, SqT.same s1 hS, rfl, _, rfl, sa, _, dx, _, _, rfl, e, T.l_Scope, T.n_Scope_words, scF_words .., aw, _, rfl, .inr h1, rfl, L2.flat_strs _, ?_⟩
  show Q (.bl (inV _ _)) H1
  rw [in_of hc]
  exact q H1 s1
theorem ok_slot (T : Tops w K mg) (G_is_name : FnOk P w K mg base CX0 1 T.a_is_name T.d_is_name ["value"] spIsName) : FnOk P w K mg base CX0 2 T.a_is_slot_row T.d_is_slot_row ["row", "scope"] (spSlot K T.c_Scope) := by
  refine T.F_is_slot_row.ok sc_is_slot_row (fun vs H Q E h => ?_) (fun cdv A outer s H vs Q E hr h => ?_)
  · obtain ⟨v, sa, S, g, s, rfl, _⟩ := h
    rfl
  obtain ⟨v, sa, S, g, sl, rfl, hD, hSc, hs, q⟩ := h
  obtain ⟨a, tg, rfl, hS⟩ : ∃ (a : Addr) (tg : Str), v = .ref a ∧ SqT K H a [.str tg, .str sl] := by
    cases g with
    | true => obtain ⟨a, e, h⟩ := give_at hD; exact ⟨a, _, e, h⟩
    | false => obtain ⟨a, e, h⟩ := say_at hD; exact ⟨a, _, e, h⟩
  refine ⟨_, (pss_one (ps_ret (pe_and (pe_cmpR op_eq (pe_callB call_len rfl T.z_len PySem.boot_len (pa_cons (pv 0) pa_nil)) pe_int (nomark _)) (pe_one (pe_call G_is_name (hr.mono (by omega)) rfl T.m_is_name T.F_is_name.kp T.b_is_name .nil pass0 (pa_cons (pe_ix ix_tup (pv 0) pe_int (fun _ _ => rfl)) pa_nil)))))), ?_⟩
  refine ⟨_, rfl, .ref a, _, rfl, .inr ⟨_, hS, rfl⟩, rfl, _, rfl, if_true_of (by show decide (V.int ((2 : Nat) : Int) = V.int 2) = true; decide +kernel) ?_⟩
  exact ⟨_, rfl, a, _, 1, _, rfl, rfl, hS, rfl, sl, rfl, hs, q⟩
theorem ok_write (T : Tops w K mg) (G_is_name : FnOk P w K mg base CX0 1 T.a_is_name T.d_is_name ["value"] spIsName) : FnOk P w K mg base CX0 2 T.a_is_write_row T.d_is_write_row ["row", "scope"] (spWrite K T.c_Scope) := by
  refine T.F_is_write_row.ok sc_is_write_row (fun vs H Q E h => ?_) (fun cdv A outer s H vs Q E hr h => ?_)
  · obtain ⟨v, sa, S, c, s, rfl, _⟩ := h
    rfl
  obtain ⟨v, sa, S, c, sl, rfl, hD, hSc, hc, hs, q⟩ := h
  obtain ⟨a, rfl, hS⟩ := wr_at hD
  obtain ⟨dx, aw, as, ar, e, h1, h2, h3⟩ := hSc.ex
  refine ⟨_, (pss_one (ps_ret (pe_and (pe_cmpR op_eq (pe_callB call_len rfl T.z_len PySem.boot_len (pa_cons (pv 0) pa_nil)) pe_int (nomark _)) (pe_and (pe_cmpR op_in_seq (pe_ix ix_tup (pv 0) pe_int (fun _ _ => rfl)) (pe_fld (pv 1) rfl) (by rfl)) (pe_one (pe_call G_is_name (hr.mono (by omega)) rfl T.m_is_name T.F_is_name.kp T.b_is_name .nil pass0 (pa_cons (pe_ix ix_tup (pv 0) pe_int (fun _ _ => rfl)) pa_nil))))))), ?_⟩
  refine ⟨_, rfl, .ref a, _, rfl, .inr ⟨_, hS, rfl⟩, rfl, _, rfl, if_true_of (by show decide (V.int ((3 : Nat) : Int) = V.int 3) = true; decide +kernel) ?_⟩
  refine ⟨_, rfl, a, _, 1, _, rfl, rfl, hS, rfl, _, rfl, sa, _, dx, _, _, rfl, e, T.l_Scope, T.n_Scope_sources, scF_sources .., as, _, rfl, .inr h2, rfl, L2.flat_strs _, _, rfl, if_true_of (in_of hc) ?_⟩
  exact ⟨_, rfl, a, _, 2, _, rfl, rfl, hS, rfl, sl, rfl, hs, q⟩
theorem ok_if (T : Tops w K mg) (G_is_name : FnOk P w K mg base CX0 1 T.a_is_name T.d_is_name ["value"] spIsName) : FnOk P w K mg base CX0 2 T.a_is_if_row T.d_is_if_row ["row", "scope"] (spIf K T.c_Scope) := by
  refine T.F_is_if_row.ok sc_is_if_row (fun vs H Q E h => ?_) (fun cdv A outer s H vs Q E hr h => ?_)
  · obtain ⟨v, sa, S, s, u, y, n, rfl, _⟩ := h
    rfl
  obtain ⟨v, sa, S, sl, u, y, n, rfl, hD, hSc, hc, hs, q⟩ := h
  obtain ⟨a, vy, vn, rfl, hS, hy, hn⟩ := ite_at hD
  refine ⟨_, (pss_cons (ps_if (PW.pt (pw_or (pt_cmpR op_ne (pe_callB call_len rfl T.z_len PySem.boot_len (pa_cons (pv 0) pa_nil)) pe_int (nomark _)) (pw_or (pt_not (pt_val (pe_call G_is_name (hr.mono (by omega)) rfl T.m_is_name T.F_is_name.kp T.b_is_name .nil pass0 (pa_cons (pe_ix ix_tup (pv 0) pe_int (fun _ _ => rfl)) pa_nil)))) (pw_or1 (pt_cmpR op_notIn_seq (pe_ix ix_tup (pv 0) pe_int (fun _ _ => rfl)) (pe_fld (pv 1) rfl) (by rfl)))))) (pss_one (ps_ret pe_bl)) pss_nil)
    (pss_one (ps_ret (pe_and (pe_callB call_isi rfl T.z_isinstance (by decide +kernel) (pa_cons (pe_ix ix_tup (pv 0) pe_int (fun _ _ => rfl)) (pa_cons (pe_bltn (v := .ty "tuple") rfl T.z_tuple (by decide +kernel) rfl) pa_nil))) (pe_one (pe_callB call_isi rfl T.z_isinstance (by decide +kernel) (pa_cons (pe_ix ix_tup (pv 0) pe_int (fun _ _ => rfl)) (pa_cons (pe_bltn (v := .ty "tuple") rfl T.z_tuple (by decide +kernel) rfl) pa_nil)))))))), ?_⟩
  refine ⟨_, rfl, .ref a, _, rfl, .inr ⟨_, hS, rfl⟩, rfl, _, rfl, if_false_of (by show (!decide (V.int ((5 : Nat) : Int) = V.int 5)) = false; decide +kernel) ?_⟩
  refine ⟨_, rfl, a, _, 1, _, rfl, rfl, hS, rfl, sl, rfl, hs, fun H1 s1 => ⟨_, rfl, iteF ?_⟩⟩
  obtain ⟨dx, aw, as, ar, e, h1, h2, h3⟩ := (hSc.same s1).ex
  have hS1 := SqT.same s1 hS
  refine ⟨_, rfl, a, _, 2, _, rfl, rfl, hS1, rfl, _, rfl, sa, _, dx, _, _, rfl, e, T.l_Scope, T.n_Scope_words, scF_words .., aw, _, rfl, .inr h1, rfl, L2.flat_strs _, _, rfl, if_false_of (by show (!inV _ _) = false; rw [in_of hc]; rfl) ?_⟩
  obtain ⟨ay, xy, rfl, hy1, _⟩ := Dp.tup_inv (Dp.same s1 hy)
  obtain ⟨an, xn, rfl, hn1, _⟩ := Dp.tup_inv (Dp.same s1 hn)
  refine ⟨_, rfl, a, _, 3, _, rfl, rfl, hS1, rfl, .ref ay, .ty "tuple", .type "tuple", .type "tuple", true, rfl, .ty _, ty_tup hy1, kit_ty (by decide +kernel), _, rfl, iteT ?_⟩
  exact ⟨_, rfl, a, _, 4, _, rfl, rfl, hS1, rfl, .ref an, .ty "tuple", .type "tuple", .type "tuple", true, rfl, .ty _, ty_tup hn1, kit_ty (by decide +kernel), q H1 s1⟩
/-- which function judges a row -/
def fitF (T : Tops w K mg) : Td.Row → Addr
  | .rd .. => T.a_is_read_row
  | .put .. => T.a_is_put_row
  | .give .. => T.a_is_slot_row
  | .say .. => T.a_is_slot_row
  | .wr .. => T.a_is_write_row
  | .ite .. => T.a_is_if_row
def spCheckOf (T : Tops w K mg) : Sp := fun vs H Q _ => ∃ (S : Sc) (dep : Nat) (r : Td.Row), vs = [.str (kdS S.eff), .str (rowTag r)] ∧ okR S dep r ∧ Q (.ref (fitF T r)) H
theorem ok_check_of (T : Tops w K mg) : FnOk P w K mg base CX0 1 T.a_check_of T.d_check_of ["kind", "form"] (spCheckOf T) := by
  refine T.F_check_of.ok sc_check_of (fun vs H Q E h => ?_) (fun cdv A outer s H vs Q E hr h => ?_)
  · obtain ⟨S, dep, r, rfl, _⟩ := h
    rfl
  obtain ⟨S, dep, r, rfl, hok, q⟩ := h
  refine ⟨_, (pss_cons (ps_if (pt_cmpR op_eq (pv 0) pe_str (nomark _)) (pss_one (ps_ret (pe_kget (pe_glob (v := .ref T.a_DERIVED_FORMS) rfl T.c_DERIVED_FORMS rfl) (pv 1) ⟨rfl, rfl, rfl, rfl⟩))) pss_nil)
    (pss_one (ps_ret (pe_kget (pe_glob (v := .ref T.a_EFFECT_FORMS) rfl T.c_EFFECT_FORMS rfl) (pv 1) ⟨rfl, rfl, rfl, rfl⟩)))), ?_⟩
  refine ⟨_, rfl, rfl, _, rfl, ?_⟩
  obtain ⟨eff, ws, so, rd⟩ := S
  cases eff with
  | false =>
    refine if_true_of (by show decide (V.str "derived" = V.str "derived") = true; decide +kernel) ?_
    refine ⟨T.a_DERIVED_FORMS, rfl, T.w_DERIVED_FORMS, _, rfl, _, rfl, .inl ⟨_, ?_, q⟩⟩
    cases r with
    | rd pk c s =>
      unfold okR at hok
      cases pk with
      | false => exact T.w_DERIVED_FORMS_read
      | true => exact nomatch hok.1 rfl
    | put s u => exact T.w_DERIVED_FORMS_put
    | give s => exact T.w_DERIVED_FORMS_give
    | say s => unfold okR at hok; exact nomatch hok.1
    | wr c s => unfold okR at hok; exact nomatch hok.1
    | ite s u y n => exact T.w_DERIVED_FORMS_if
  | true =>
    refine if_false_of (by show decide (V.str "effects" = V.str "derived") = false; decide +kernel) ?_
    refine ⟨T.a_EFFECT_FORMS, rfl, T.w_EFFECT_FORMS, _, rfl, _, rfl, .inl ⟨_, ?_, q⟩⟩
    cases r with
    | rd pk c s =>
      cases pk with
      | false => exact T.w_EFFECT_FORMS_read
      | true => exact T.w_EFFECT_FORMS_peek
    | put s u => exact T.w_EFFECT_FORMS_put
    | give s => unfold okR at hok; exact nomatch hok.1
    | say s => exact T.w_EFFECT_FORMS_say
    | wr c s => exact T.w_EFFECT_FORMS_write
    | ite s u y n => exact T.w_EFFECT_FORMS_if
end
end K80
namespace K80
open PySem PySem.Spec PyProof.Rows L2 Td
def fitS (K : PySem.W.Frag) {w : World} {mg : Str → Option Value} (T : Tops w K mg) : Addr → Sp → Prop := fun f sp =>
  (f = T.a_is_read_row ∧ sp = spRead K T.c_Scope) ∨ (f = T.a_is_put_row ∧ sp = spPut K T.c_Scope) ∨ (f = T.a_is_slot_row ∧ sp = spSlot K T.c_Scope) ∨ (f = T.a_is_write_row ∧ sp = spWrite K T.c_Scope) ∨ (f = T.a_is_if_row ∧ sp = spIf K T.c_Scope)
def spValid (K : PySem.W.Frag) (C : Addr) : Sp := fun vs H Q _ => ∃ (v : V) (sa : Addr) (S : Sc) (dep : Nat) (r : Td.Row), vs = [v, .ref sa, .int (dep : Nat)] ∧ Dp K H v (rowD r) ∧ ScopeAt K H C sa S ∧ okR S dep r ∧ ∀ H', Same H H' → Q (.bl true) H'
def spFirst (K : PySem.W.Frag) (C : Addr) (n : Nat) : Sp := fun vs H Q _ => ∃ (v : V) (sa b : Addr) (bs : List V) (S : Sc) (dep : Nat) (rs : List Td.Row), vs = [v, .ref sa, .ref b, .int (dep : Nat)] ∧ Dp K H v (.tuple (rowsD rs)) ∧ ScopeAt K H C sa S ∧
  SqT K H b bs ∧ bs.length ≤ 2 + 2 * dep ∧ bs ≠ [] ∧ okRs S dep rs ∧ dep ≤ 4 ∧ 5 ≤ dep + n ∧ ∀ H', Same H H' → Q .non H'
def spPaths (K : PySem.W.Frag) (n : Nat) : Sp := fun vs H Q _ => ∃ (v : V) (b : Addr) (bs : List V) (S : Sc) (dep : Nat) (rs : List Td.Row), vs = [v, .ref b] ∧ Dp K H v (.tuple (rowsD rs)) ∧
  SqT K H b bs ∧ bs.length ≤ 2 + 2 * dep ∧ bs ≠ [] ∧ okRs S dep rs ∧ cnts rs ≤ 100 ∧ dep ≤ 4 ∧ 5 ≤ dep + n ∧ ∀ (p : Addr) (xs : List V) H', Same H H' → H p = none → H' p = some (.lst xs) → xs.length = cnts rs → Q (.ref p) H'
def spBody (K : PySem.W.Frag) (C : Addr) : Sp := fun vs H Q _ => ∃ (v : V) (sa : Addr) (S : Sc) (rs : List Td.Row) (i : Int), vs = [v, .ref sa, .int i] ∧ Dp K H v (.tuple (rowsD rs)) ∧ ScopeAt K H C sa S ∧ okRs S 1 rs ∧ cnts rs ≤ 16 ∧
  ∀ H', Same H H' → Q .non H'
section
variable {P : Program} {w : World} {K : PySem.W.Frag} {mg : Str → Option Value} {base : Heap}
theorem fit_held (T : Tops w K mg)
    (G1 : FnOk P w K mg base CX0 2 T.a_is_read_row T.d_is_read_row ["row", "scope"] (spRead K T.c_Scope))
    (G2 : FnOk P w K mg base CX0 2 T.a_is_put_row T.d_is_put_row ["row", "scope"] (spPut K T.c_Scope))
    (G3 : FnOk P w K mg base CX0 2 T.a_is_slot_row T.d_is_slot_row ["row", "scope"] (spSlot K T.c_Scope))
    (G4 : FnOk P w K mg base CX0 2 T.a_is_write_row T.d_is_write_row ["row", "scope"] (spWrite K T.c_Scope))
    (G5 : FnOk P w K mg base CX0 2 T.a_is_if_row T.d_is_if_row ["row", "scope"] (spIf K T.c_Scope)) : ∀ f sp, fitS K T f sp → Held P w K mg base 2 f sp := by
  rintro f sp (⟨rfl, rfl⟩ | ⟨rfl, rfl⟩ | ⟨rfl, rfl⟩ | ⟨rfl, rfl⟩ | ⟨rfl, rfl⟩)
  · exact ⟨_, _, G1, T.F_is_read_row.kp, T.b_is_read_row⟩
  · exact ⟨_, _, G2, T.F_is_put_row.kp, T.b_is_put_row⟩
  · exact ⟨_, _, G3, T.F_is_slot_row.kp, T.b_is_slot_row⟩
  · exact ⟨_, _, G4, T.F_is_write_row.kp, T.b_is_write_row⟩
  · exact ⟨_, _, G5, T.F_is_if_row.kp, T.b_is_if_row⟩
theorem ok_valid (T : Tops w K mg) (hA : ∀ f sp, fitS K T f sp → Held P w K mg base 2 f sp)
    (G_check_of : FnOk P w K mg base CX0 1 T.a_check_of T.d_check_of ["kind", "form"] (spCheckOf T)) :
    FnOk P w K mg base CX0 3 T.a_is_valid_row T.d_is_valid_row ["row", "scope", "depth"] (spValid K T.c_Scope) := by
  refine T.F_is_valid_row.ok sc_is_valid_row (fun vs H Q E h => ?_) (fun cdv A outer s H vs Q E hr h => ?_)
  · obtain ⟨v, sa, S, dep, r, rfl, _⟩ := h
    rfl
  obtain ⟨v, sa, S, dep, r, rfl, hD, hSc, ok, q⟩ := h
  obtain ⟨a, xs, rfl, hS, h0⟩ := row_at hD
  obtain ⟨dx, aw, as, ar, e, h1, h2, h3⟩ := hSc.ex
  refine ⟨_, (pss_cons (ps_if (PW.pt (pw_or (pt_not (pt_val (pe_callB call_isi rfl T.z_isinstance (by decide +kernel) (pa_cons (pv 0) (pa_cons (pe_bltn (v := .ty "tuple") rfl T.z_tuple (by decide +kernel) rfl) pa_nil))))) (pw_or (pt_cmpR op_eq (pe_callB call_len rfl T.z_len PySem.boot_len (pa_cons (pv 0) pa_nil)) pe_int (nomark _)) (pw_or1 (pt_not (pt_val (pe_callB call_isi rfl T.z_isinstance (by decide +kernel) (pa_cons (pe_ix ix_tup (pv 0) pe_int (fun _ _ => rfl)) (pa_cons (pe_bltn (v := .ty "str") rfl T.z_str (by decide +kernel) rfl) pa_nil))))))))) (pss_one (ps_ret pe_bl)) pss_nil)
    (C8.pss_cut (ps_if (PW.pt (pw_and (pt_cmpR op_eq (pe_ix ix_tup (pv 0) pe_int (fun _ _ => rfl)) pe_str (nomark _)) (pw_and1 (pt_cmpR op_gt (pv 2) (pe_glob (v := .int 3) rfl T.c_DEEPEST_IF ⟨_, rfl⟩) (nomark _))))) (pss_one (ps_ret pe_bl)) pss_nil)
    (pss_cons (ps_set (i := 3) sc_is_valid_row.nd rfl (Or.inl rfl) (pe_call G_check_of (hr.mono (by omega)) rfl T.m_check_of T.F_check_of.kp T.b_check_of .nil pass0 (pa_cons (pe_fld (pv 1) rfl) (pa_cons (pe_ix ix_tup (pv 0) pe_int (fun _ _ => rfl)) pa_nil))))
    (pss_one (ps_ret (pe_and (pe_cmpR op_notN (pv 3) pe_non (nomark _)) (pe_one (pe_callR (i := 3) (S := fitS K T) hA (hr.mono (by omega)) rfl (Or.inl rfl) (pa_cons (pv 0) (pa_cons (pv 1) pa_nil)))))))))), ?_⟩
  have hx : 0 < xs.length := (List.getElem?_eq_some_iff.mp h0).1
  have a0 : atI xs 0 = some (.str (rowTag r)) := atI_nat (j := 0) h0
  refine ⟨_, rfl, .ref a, .ty "tuple", .type "tuple", .type "tuple", true, rfl, .ty _, ty_tup hS, kit_ty (by decide +kernel), true, rfl, iteF ?_⟩
  refine ⟨_, rfl, .ref a, _, rfl, .inr ⟨_, hS, rfl⟩, rfl, _, rfl, if_false_of (decide_eq_false (fun h => by injection h; omega)) ?_⟩
  refine ⟨_, rfl, a, _, 0, _, rfl, rfl, hS, a0, .str (rowTag r), .ty "str", .type "str", .type "str", true, rfl, .ty _, .base (.str _), kit_ty (by decide +kernel), true, rfl, if_false_of rfl ?_⟩
  refine ⟨fun σ' H' => H' = H ∧ σ' = [some (.ref a), some (.ref sa), some (.int (dep : Nat)), none], ?_, ?_⟩
  · refine ⟨_, rfl, a, _, 0, _, rfl, rfl, hS, a0, rfl, _, rfl, ?_⟩
    cases hi : isIte r with
    | false => exact if_false_of ((tag_if r).trans hi) (iteF ⟨rfl, rfl⟩)
    | true =>
      refine if_true_of ((tag_if r).trans hi) ?_
      have h3' : dep ≤ 3 := by
        cases r with
        | ite s u y n => unfold okR at ok; exact ok.1
        | _ => cases hi
      refine ⟨_, rfl, _, _, rfl, rfl, _, rfl, if_false_of (decide_eq_false (by omega)) ⟨rfl, rfl⟩⟩
  rintro σ' H' ⟨rfl, rfl⟩
  refine ⟨_, rfl, sa, _, dx, _, _, rfl, e, T.l_Scope, T.n_Scope_kind, scF_kind .., _, rfl, a, _, 0, _, rfl, rfl, hS, a0, S, dep, r, rfl, ok, ?_⟩
  refine ⟨_, rfl, rfl, _, rfl, if_true_of (by rfl) ?_⟩
  cases r with
  | rd pk c s => unfold okR at ok; exact ⟨_, _, rfl, .inl ⟨rfl, rfl⟩, _, rfl, _, rfl, _, sa, S, pk, c, s, rfl, hD, hSc, ok.2.1, ok.2.2, q⟩
  | put s u => unfold okR at ok; exact ⟨_, _, rfl, .inr (.inl ⟨rfl, rfl⟩), _, rfl, _, rfl, _, sa, S, s, u, rfl, hD, hSc, ok.2, ok.1, q⟩
  | give s => unfold okR at ok; exact ⟨_, _, rfl, .inr (.inr (.inl ⟨rfl, rfl⟩)), _, rfl, _, rfl, _, sa, S, true, s, rfl, hD, hSc, ok.2, q⟩
  | say s => unfold okR at ok; exact ⟨_, _, rfl, .inr (.inr (.inl ⟨rfl, rfl⟩)), _, rfl, _, rfl, _, sa, S, false, s, rfl, hD, hSc, ok.2, q⟩
  | wr c s => unfold okR at ok; exact ⟨_, _, rfl, .inr (.inr (.inr (.inl ⟨rfl, rfl⟩))), _, rfl, _, rfl, _, sa, S, c, s, rfl, hD, hSc, ok.2.1, ok.2.2, q⟩
  | ite s u y n => unfold okR at ok; exact ⟨_, _, rfl, .inr (.inr (.inr (.inr ⟨rfl, rfl⟩))), _, rfl, _, rfl, _, sa, S, s, u, y, n, rfl, hD, hSc, ok.2.2.1, ok.2.1, q⟩
theorem ok_first1 (T : Tops w K mg) {n : Nat} (hn3 : 3 ≤ n) (G_is_valid_row : FnOk P w K mg base CX0 3 T.a_is_valid_row T.d_is_valid_row ["row", "scope", "depth"] (spValid K T.c_Scope))
    (G_first_wrong_path : FnOk P w K mg base CX0 n T.a_first_wrong_path T.d_first_wrong_path ["rows", "scope", "base", "depth"] (spFirst K T.c_Scope (n - 3))) :
    FnOk P w K mg base CX0 (n + 1) T.a_first_wrong_path T.d_first_wrong_path ["rows", "scope", "base", "depth"] (spFirst K T.c_Scope (n - 3 + 1)) := by
  refine T.F_first_wrong_path.ok sc_first_wrong_path (fun vs H Q E h => ?_) (fun cdv A outer s H vs Q E hr h => ?_)
  · obtain ⟨v, sa, b, bs, S, dep, rs, rfl, _⟩ := h
    rfl
  obtain ⟨v, sa, b, bs, S, dep, rs, rfl, hD, hSc, hB, hbl, hb0, ok, hdep, hn, q⟩ := h
  obtain ⟨a, xs, rfl, hS, hl, hx⟩ := rows_at hD
  refine ⟨_, (pss_cons (ps_for PassesOwn.never rfl (pi_enumT rfl T.z_enumerate (pa_cons (pv 0) pa_nil)) (pg_tup rfl (pgs_cons (pg_name (i := 4) sc_first_wrong_path.nd rfl (Or.inl rfl)) (pgs_cons (pg_name (i := 5) sc_first_wrong_path.nd rfl (Or.inl rfl)) pgs_nil))) (pss_cons (ps_set (i := 6) sc_first_wrong_path.nd rfl (Or.inl rfl) (pe_op op_catA (pv 2) (pe_tup (pa_cons (pv 4) pa_nil))))
    (pss_cons (ps_if (pt_not (pt_val (pe_call G_is_valid_row (hr.mono (by omega)) rfl T.m_is_valid_row T.F_is_valid_row.kp T.b_is_valid_row .nil pass0 (pa_cons (pv 5) (pa_cons (pv 1) (pa_cons (pv 3) pa_nil)))))) (pss_one (ps_ret (pv 6))) pss_nil)
    (pss_one (ps_if (pt_cmpR op_eq (pe_ix ix_tup (pv 5) pe_int (fun _ _ => rfl)) pe_str (nomark _)) (pss_one (ps_for PassesOwn.never rfl (pi_tup (pe_tup (pa_cons pe_int (pa_cons pe_int pa_nil)))) (pg_name (i := 7) sc_first_wrong_path.nd rfl (Or.inl rfl)) (pss_cons (ps_set (i := 8) sc_first_wrong_path.nd rfl (Or.inl rfl) (pe_call G_first_wrong_path (hr.mono (by omega)) rfl T.m_first_wrong_path T.F_first_wrong_path.kp T.b_first_wrong_path .nil pass0 (pa_cons (pe_ix ix_tup (pv 5) (pe_op op_add pe_int (pv 7)) (fun _ _ => rfl)) (pa_cons (pv 1) (pa_cons (pe_op op_catA (pv 6) (pe_tup (pa_cons (pv 7) pa_nil))) (pa_cons (pe_op op_add (pv 3) pe_int) pa_nil))))))
    (pss_one (ps_if (pt_cmpR op_notN (pv 8) pe_non (nomark _)) (pss_one (ps_ret (pv 8))) pss_nil))))) pss_nil)))))
    (pss_one (ps_ret pe_non))), ?_⟩
  refine ⟨_, rfl, a, _, rfl, hS, for_enumT (K := K) (a := a) (xs := xs) (fun i σ H' => ∃ v4 v5 v6 v7 v8 : Option V, σ = [some (.ref a), some (.ref sa), some (.ref b), some (.int (dep : Nat)), v4, v5, v6, v7, v8] ∧ Same H H')
    ⟨none, none, none, none, none, rfl, Same.refl _⟩ (fun i σ H' _ ⟨_, _, _, _, _, _, hs⟩ => SqT.same hs hS) ?_ ?_⟩
  · rintro i x σ H1 t hi ⟨v4, v5, v6, v7, v8, rfl, hs⟩ ht
    obtain ⟨r, hr2, hDr⟩ := hx i x hi
    have okr := okRs_get ok hr2
    have hs1 : Same H (upd H1 t (.tup [.int (i : Nat), x])) := hs.trans (Same.new ht _)
    refine ⟨t, _, rfl, SqT.of upd_same, rfl, _, _, rfl, _, _, rfl, rfl, ?_⟩
    generalize upd H1 t (.tup [.int (i : Nat), x]) = H2 at hs1
    -- path = base + (place,)
    refine ⟨_, rfl, _, rfl, by show 1 ≤ sizeLine; decide, fun t1 ht1 => ?_⟩
    have hs2 := hs1.trans (Same.new ht1 (.tup [.int (i : Nat)]))
    refine ⟨b, t1, bs, _, rfl, rfl, SqT.same hs2 hB, SqT.of upd_same, Nat.le_of_lt (small1000 (by show bs.length + 1 ≤ 1000; omega)), fun e => absurd e hb0, fun _ e => (by cases e), fun _ _ pa hpa => ?_⟩
    have hs3 := hs2.trans (Same.new hpa (.tup (bs ++ [.int (i : Nat)])))
    have hP : SqT K (upd (upd H2 t1 (.tup [.int (i : Nat)])) pa (.tup (bs ++ [.int (i : Nat)]))) pa (bs ++ [.int (i : Nat)]) := SqT.of upd_same
    show tSeq _ _ _ _ (upd (upd H2 t1 (.tup [.int (i : Nat)])) pa (.tup (bs ++ [.int (i : Nat)])))
    generalize upd (upd H2 t1 (.tup [.int (i : Nat)])) pa (.tup (bs ++ [.int (i : Nat)])) = H3 at hs3 hP
    -- is_valid_row
    refine ⟨_, rfl, _, rfl, _, rfl, _, sa, S, dep, r, rfl, Dp.same hs3 hDr, hSc.same hs3, okr, fun H4 s4 => ⟨_, rfl, if_false_of rfl ?_⟩⟩
    have hs4 := hs3.trans s4
    cases hi2 : isIte r with
    | false =>
      obtain ⟨ar, ys, rfl, hSr, h0⟩ := row_at (Dp.same hs4 hDr)
      refine ⟨_, rfl, ar, _, 0, _, rfl, rfl, hSr, atI_nat (j := 0) h0, rfl, _, rfl, ?_⟩
      exact if_false_of ((tag_if r).trans hi2) ⟨_, _, _, v7, v8, rfl, hs4⟩
    | true =>
      cases r with
      | ite sl u y n' =>
        obtain ⟨ar, vy, vn, rfl, hSr, hy, hn'⟩ := ite_at (Dp.same hs4 hDr)
        unfold okR at okr
        refine ⟨_, rfl, ar, _, 0, _, rfl, rfl, hSr, rfl, rfl, _, rfl, ?_⟩
        refine if_true_of (by decide +kernel) ?_
        refine ⟨by show 2 ≤ sizeLine; decide, fun tb htb => ?_⟩
        have hs5 := Same.new htb (.tup [.int 0, .int 1])
        refine ⟨tb, rfl, ⟨_, SqT.of upd_same⟩, for_tup (K := K) (a := tb) (xs := [.int 0, .int 1]) (fun j σ H' => ∃ v7 v8 : Option V, σ = [some (.ref a), some (.ref sa), some (.ref b), some (.int (dep : Nat)), some (.int (i : Nat)), some (.ref ar), some (.ref pa), v7, v8] ∧ Same (upd H4 tb (.tup [.int 0, .int 1])) H')
          ⟨v7, v8, rfl, Same.refl _⟩ (fun j σ H' _ ⟨_, _, _, h⟩ => SqT.of (h _ _ upd_same)) ?_ ?_⟩
        · rintro j x σ H5 hj ⟨v7, v8, rfl, h5⟩
          have h45 := hs5.trans h5
          have h05 := hs4.trans h45
          obtain ⟨k, vk, rk, rfl, hk, hDk, okk⟩ : ∃ (k : Nat) (vk : V) (rk : List Td.Row), x = .int (k : Nat) ∧ atI [V.str "if", .str sl, .str u, vy, vn] (3 + (k : Int)) = some vk ∧ Dp K H4 vk (.tuple (rowsD rk)) ∧ okRs S (dep + 1) rk := by
            match j, hj with
            | 0, hj => cases hj; exact ⟨0, vy, y, rfl, rfl, hy, okr.2.2.2.1⟩
            | 1, hj => cases hj; exact ⟨1, vn, n', rfl, rfl, hn', okr.2.2.2.2⟩
            | j + 2, hj => simp at hj
          refine ⟨_, rfl, _, rfl, _, _, rfl, rfl, ar, _, _, _, rfl, rfl, SqT.same h45 hSr, hk, _, rfl, _, rfl, _, rfl, by show 1 ≤ sizeLine; decide, fun t2 ht2 => ?_⟩
          have s52 := Same.new ht2 (.tup [.int (k : Nat)])
          have hP5 := SqT.same ((s4.trans h45).trans s52) hP
          refine ⟨pa, t2, _, _, rfl, rfl, hP5, SqT.of upd_same, Nat.le_of_lt (small1000 (by rw [List.length_append]; show bs.length + 1 + 1 ≤ 1000; omega)), fun e => (by simp at e), fun _ e => (by cases e), fun _ _ t3 ht3 => ?_⟩
          have s53 := s52.trans (Same.new ht3 (.tup (bs ++ [.int (i : Nat)] ++ [.int (k : Nat)])))
          refine ⟨_, rfl, _, _, rfl, rfl, vk, sa, t3, _, S, dep + 1, rk, rfl, Dp.same (h45.trans s53) hDk, hSc.same (h05.trans s53), SqT.of upd_same, by simp; omega, by simp, okk, by omega, by omega, fun H6 s6 => ?_⟩
          refine ⟨_, rfl, rfl, _, rfl, if_false_of rfl ⟨_, _, rfl, h5.trans (s53.trans s6)⟩⟩
        · rintro σ H5 ⟨v7, v8, rfl, h5⟩
          exact ⟨_, _, _, v7, v8, rfl, hs4.trans (hs5.trans h5)⟩
      | _ => cases hi2
  · rintro σ H1 ⟨v4, v5, v6, v7, v8, rfl, hs⟩
    exact q H1 hs
theorem ok_first (T : Tops w K mg) (G1 : FnOk P w K mg base CX0 3 T.a_is_valid_row T.d_is_valid_row ["row", "scope", "depth"] (spValid K T.c_Scope)) :
    ∀ k, FnOk P w K mg base CX0 (k + 3) T.a_first_wrong_path T.d_first_wrong_path ["rows", "scope", "base", "depth"] (spFirst K T.c_Scope k)
  | 0 => by
    have no : ∀ vs H Q E, ¬ spFirst K T.c_Scope 0 vs H Q E := fun vs H Q E h => by
      obtain ⟨_, _, _, _, _, dep, _, _, _, _, _, _, _, _, h1, h2, _⟩ := h
      omega
    exact ⟨fun vs H Q E h => absurd h (no vs H Q E), fun A outer s H args us vs Q E _ _ _ _ h => absurd h (no vs H Q E)⟩
  | k + 1 => ok_first1 T (n := k + 3) (by omega) G1 (ok_first T G1 k)
end
end K80
namespace K80
open PySem PySem.Spec PyProof.Rows L2 Td
theorem Same.own {H H' : Hp} {p : Addr} {o : HO} (k : Same H H') (h : H p = none) : Same H (upd H' p o) := fun b u e => by
  rw [upd_ne (ne_of_none e h)]; exact k b u e
theorem cnts_get {rs : List Td.Row} {i : Nat} {r : Td.Row} (h : rs[i]? = some r) : cnt r + cnts (rs.take i) ≤ cnts rs := by
  have e : cnts rs = cnts (rs.take (i + 1)) + cnts (rs.drop (i + 1)) := by rw [← cnts_append, List.take_append_drop]
  rw [e, cnts_take h]; omega
section
variable {P : Program} {w : World} {K : PySem.W.Frag} {mg : Str → Option Value} {base : Heap}
theorem ok_paths1 (T : Tops w K mg) {n : Nat} (G_paths_of_rows : FnOk P w K mg base CX0 n T.a_paths_of_rows T.d_paths_of_rows ["rows", "base"] (spPaths K n)) :
    FnOk P w K mg base CX0 (n + 1) T.a_paths_of_rows T.d_paths_of_rows ["rows", "base"] (spPaths K (n + 1)) := by
  refine T.F_paths_of_rows.ok sc_paths_of_rows (fun vs H Q E h => ?_) (fun cdv A outer s H vs Q E hr h => ?_)
  · obtain ⟨v, b, bs, S, dep, rs, rfl, _⟩ := h
    rfl
  obtain ⟨v, b, bs, S, dep, rs, rfl, hD, hB, hbl, hb0, ok, hcn, hdep, hn, q⟩ := h
  obtain ⟨a, xs, rfl, hS, hl, hx⟩ := rows_at hD
  refine ⟨_, (pss_cons (ps_set (i := 2) sc_paths_of_rows.nd rfl (Or.inl rfl) (pe_lst pa_nil))
    (pss_cons (ps_for PassesOwn.never rfl (pi_enumT rfl T.z_enumerate (pa_cons (pv 0) pa_nil)) (pg_tup rfl (pgs_cons (pg_name (i := 3) sc_paths_of_rows.nd rfl (Or.inl rfl)) (pgs_cons (pg_name (i := 4) sc_paths_of_rows.nd rfl (Or.inl rfl)) pgs_nil))) (pss_cons (ps_set (i := 5) sc_paths_of_rows.nd rfl (Or.inl rfl) (pe_op op_catA (pv 1) (pe_tup (pa_cons (pv 3) pa_nil))))
    (pss_cons (ps_expr (pe_bm PySem.F.plainAttrs_list PySem.F.slot_list_append PySem.F.type_list_append mt_append (pv 2) (pa_cons (pv 5) pa_nil)))
    (pss_one (ps_if (pt_cmpR op_eq (pe_ix ix_tup (pv 4) pe_int (fun _ _ => rfl)) pe_str (nomark _)) (pss_one (ps_for PassesOwn.never rfl (pi_tup (pe_tup (pa_cons pe_int (pa_cons pe_int pa_nil)))) (pg_name (i := 6) sc_paths_of_rows.nd rfl (Or.inl rfl)) (pss_one (ps_expr (pe_bm PySem.F.plainAttrs_list PySem.F.slot_list_extend PySem.F.type_list_extend mt_extend (pv 2) (pa_cons (pe_call G_paths_of_rows (hr.mono (by omega)) rfl T.m_paths_of_rows T.F_paths_of_rows.kp T.b_paths_of_rows .nil pass0 (pa_cons (pe_ix ix_tup (pv 4) (pe_op op_add pe_int (pv 6)) (fun _ _ => rfl)) (pa_cons (pe_op op_catA (pv 5) (pe_tup (pa_cons (pv 6) pa_nil))) pa_nil))) pa_nil)))))) pss_nil)))))
    (pss_one (ps_ret (pv 2))))), ?_⟩
  refine ⟨by show 0 ≤ sizeLine; decide, fun p hp => ?_⟩
  refine ⟨_, rfl, a, _, rfl, SqT.same (Same.new hp _) hS, for_enumT (K := K) (a := a) (xs := xs) (fun i σ H' => ∃ (v4 v5 v6 v7 : Option V) (ys : List V), σ = [some (.ref a), some (.ref b), some (.ref p), v4, v5, v6, v7] ∧ Same H H' ∧ H' p = some (.lst ys) ∧ ys.length = cnts (rs.take i))
    ⟨none, none, none, none, [], rfl, Same.new hp _, upd_same, rfl⟩ (fun i σ H' _ ⟨_, _, _, _, _, _, hs, _⟩ => SqT.same hs hS) ?_ ?_⟩
  · rintro i x σ H1 t hi ⟨v4, v5, v6, v7, ys, rfl, hs, hy, hyl⟩ ht
    obtain ⟨r, hr2, hDr⟩ := hx i x hi
    have okr := okRs_get ok hr2
    have hcr := cnts_get hr2
    have hs1 : Same H (upd H1 t (.tup [.int (i : Nat), x])) := hs.trans (Same.new ht _)
    have hy1 : upd H1 t (.tup [.int (i : Nat), x]) p = some (.lst ys) := Same.new ht _ _ _ hy
    refine ⟨t, _, rfl, SqT.of upd_same, rfl, _, _, rfl, _, _, rfl, rfl, ?_⟩
    generalize upd H1 t (.tup [.int (i : Nat), x]) = H2 at hs1 hy1
    refine ⟨_, rfl, _, rfl, by show 1 ≤ sizeLine; decide, fun t1 ht1 => ?_⟩
    have hs2 := hs1.trans (Same.new ht1 (.tup [.int (i : Nat)]))
    have hy2 := Same.new ht1 (.tup [.int (i : Nat)]) _ _ hy1
    refine ⟨b, t1, bs, _, rfl, rfl, SqT.same hs2 hB, SqT.of upd_same, Nat.le_of_lt (small1000 (by show bs.length + 1 ≤ 1000; omega)), fun e => absurd e hb0, fun _ e => (by cases e), fun _ _ pa hpa => ?_⟩
    have hs3 := hs2.trans (Same.new hpa (.tup (bs ++ [.int (i : Nat)])))
    have hy3 := Same.new hpa (.tup (bs ++ [.int (i : Nat)])) _ _ hy2
    have hP : SqT K (upd (upd H2 t1 (.tup [.int (i : Nat)])) pa (.tup (bs ++ [.int (i : Nat)]))) pa (bs ++ [.int (i : Nat)]) := SqT.of upd_same
    show tSeq _ _ _ _ (upd (upd H2 t1 (.tup [.int (i : Nat)])) pa (.tup (bs ++ [.int (i : Nat)])))
    generalize upd (upd H2 t1 (.tup [.int (i : Nat)])) pa (.tup (bs ++ [.int (i : Nat)])) = H3 at hs3 hP hy3
    -- append
    have hyb : ys.length ≤ 100 := by omega
    refine ⟨_, rfl, .inl ⟨rfl, _, SqL.of hy3⟩, _, rfl, p, ys, _, rfl, rfl, hy3, small1000 (by omega), ?_⟩
    have hs4 : Same H (upd H3 p (.lst (ys ++ [.ref pa]))) := Same.own hs3 hp
    have hP4 : SqT K (upd H3 p (.lst (ys ++ [.ref pa]))) pa (bs ++ [.int (i : Nat)]) := SqT.tk (TK.upd (by rw [hy3]; trivial)) hP
    have hy4 : upd H3 p (.lst (ys ++ [.ref pa])) p = some (.lst (ys ++ [.ref pa])) := upd_same
    have hl4 : (ys ++ [V.ref pa]).length = cnts (rs.take i) + 1 := by rw [List.length_append, hyl]; rfl
    generalize upd H3 p (.lst (ys ++ [.ref pa])) = H4 at hs4 hP4 hy4
    generalize ys ++ [V.ref pa] = ys4 at hy4 hl4
    cases hi2 : isIte r with
    | false =>
      obtain ⟨ar, zs, rfl, hSr, h0⟩ := row_at (Dp.same hs4 hDr)
      refine ⟨_, rfl, ar, _, 0, _, rfl, rfl, hSr, atI_nat (j := 0) h0, rfl, _, rfl, ?_⟩
      exact if_false_of ((tag_if r).trans hi2) ⟨_, _, _, v7, ys4, rfl, hs4, hy4, by rw [cnts_take hr2, cnt_flat hi2, hl4]⟩
    | true =>
      cases r with
      | ite sl u y n' =>
        obtain ⟨ar, vy, vn, rfl, hSr, hyD, hnD⟩ := ite_at hDr
        unfold okR at okr
        have ecn : Td.cnt (Td.Row.ite sl u y n') = 1 + cnts y + cnts n' := by unfold Td.cnt; rfl
        refine ⟨_, rfl, ar, _, 0, _, rfl, rfl, SqT.same hs4 hSr, rfl, rfl, _, rfl, ?_⟩
        refine if_true_of (by decide +kernel) ?_
        refine ⟨by show 2 ≤ sizeLine; decide, fun tb htb => ?_⟩
        have hs5 := Same.new htb (.tup [.int 0, .int 1])
        have htbS : SqT K (upd H4 tb (.tup [.int 0, .int 1])) tb [.int 0, .int 1] := SqT.of upd_same
        have hP5 := SqT.same hs5 hP4
        have hy5 := hs5 _ _ hy4
        have hs05 := hs4.trans hs5
        generalize upd H4 tb (.tup [.int 0, .int 1]) = H5 at hs5 htbS hP5 hy5 hs05
        refine ⟨tb, rfl, ⟨_, htbS⟩, for_tup (K := K) (a := tb) (xs := [.int 0, .int 1]) (fun j σ H' => ∃ (v7 : Option V) (zs : List V), σ = [some (.ref a), some (.ref b), some (.ref p), some (.int (i : Nat)), some (.ref ar), some (.ref pa), v7] ∧ Same H H' ∧ TK H5 H' ∧ H' p = some (.lst zs) ∧ zs.length = cnts (rs.take i) + 1 + (if j = 0 then 0 else cnts y) + (if j = 2 then cnts n' else 0))
          ⟨v7, ys4, rfl, hs05, TK.refl _, hy5, by rw [hl4]; simp⟩ (fun j σ H' _ ⟨_, _, _, _, tk, _⟩ => SqT.tk tk htbS) ?_ ?_⟩
        · rintro j x σ H6 hj ⟨v7, zs, rfl, h06, tk, hy6, hl6⟩
          have D1 : Dp K H6 vy (.tuple (rowsD y)) := Dp.same h06 hyD
          have D2 : Dp K H6 vn (.tuple (rowsD n')) := Dp.same h06 hnD
          obtain ⟨k, vk, rk, rfl, hk, hDk, okk, hck, hle, hjk⟩ : ∃ (k : Nat) (vk : V) (rk : List Td.Row), x = .int (k : Nat) ∧ atI [V.str "if", .str sl, .str u, vy, vn] (3 + (k : Int)) = some vk ∧ Dp K H6 vk (.tuple (rowsD rk)) ∧ okRs S (dep + 1) rk ∧ cnts rk ≤ 100 ∧ zs.length + cnts rk ≤ 100 ∧
              zs.length + cnts rk = cnts (rs.take i) + 1 + (if j + 1 = 0 then 0 else cnts y) + (if j + 1 = 2 then cnts n' else 0) := by
            match j, hj with
            | 0, hj => cases hj; exact ⟨0, vy, y, rfl, rfl, D1, okr.2.2.2.1, by omega, by rw [hl6]; simp; omega, by rw [hl6]; simp⟩
            | 1, hj => cases hj; exact ⟨1, vn, n', rfl, rfl, D2, okr.2.2.2.2, by omega, by rw [hl6]; simp; omega, by rw [hl6]; simp⟩
            | j + 2, hj => simp at hj
          refine ⟨_, rfl, .inl ⟨rfl, _, SqL.of hy6⟩, ?_⟩
          refine ⟨_, rfl, _, rfl, _, _, rfl, rfl, ar, _, _, _, rfl, rfl, SqT.same h06 hSr, hk, _, rfl, _, rfl, by show 1 ≤ sizeLine; decide, fun t2 ht2 => ?_⟩
          have s62 := Same.new ht2 (.tup [.int (k : Nat)])
          have hP6 := SqT.same s62 (SqT.tk tk hP5)
          refine ⟨pa, t2, _, _, rfl, rfl, hP6, SqT.of upd_same, Nat.le_of_lt (small1000 (by rw [List.length_append]; show bs.length + 1 + 1 ≤ 1000; omega)), fun e => (by simp at e), fun _ e => (by cases e), fun _ _ t3 ht3 => ?_⟩
          have s63 := s62.trans (Same.new ht3 (.tup (bs ++ [.int (i : Nat)] ++ [.int (k : Nat)])))
          refine ⟨vk, t3, _, S, dep + 1, rk, rfl, Dp.same s63 hDk, SqT.of upd_same, by simp; omega, by simp, okk, hck, by omega, by omega, fun p2 ws H7 s7 hp2 hw hwl => ?_⟩
          have hy7 := s7 _ _ (s63 _ _ hy6)
          have hn2 : p ≠ p2 := ne_of_none (s63 _ _ hy6) hp2
          refine ⟨p, p2, zs, ws, rfl, rfl, hy7, hw, Nat.le_of_lt (small1000 (by omega)), ?_⟩
          refine ⟨_, _, rfl, Same.own ((h06.trans s63).trans s7) hp, ?_, upd_same, ?_⟩
          · exact (tk.trans (TK.of_same (s63.trans s7))).trans (TK.upd (by rw [hy7]; trivial))
          · rw [List.length_append, hwl]; exact hjk
        · rintro σ H6 ⟨v7, zs, rfl, h06, tk, hy6, hl6⟩
          refine ⟨_, _, _, v7, zs, rfl, h06, hy6, ?_⟩
          rw [hl6, cnts_take hr2, ecn]
          simp
          omega
      | _ => cases hi2
  · rintro σ H1 ⟨v4, v5, v6, v7, ys, rfl, hs, hy, hyl⟩
    rw [hl, List.take_length] at hyl
    exact ⟨_, rfl, q p ys H1 hs hp hy hyl⟩
theorem ok_paths (T : Tops w K mg) : ∀ k, FnOk P w K mg base CX0 k T.a_paths_of_rows T.d_paths_of_rows ["rows", "base"] (spPaths K k)
  | 0 => by
    have no : ∀ vs H Q E, ¬ spPaths K 0 vs H Q E := fun vs H Q E h => by
      obtain ⟨_, _, _, _, dep, _, _, _, _, _, _, _, _, h1, h2, _⟩ := h
      omega
    exact ⟨fun vs H Q E h => absurd h (no vs H Q E), fun A outer s H args us vs Q E _ _ _ _ h => absurd h (no vs H Q E)⟩
  | k + 1 => ok_paths1 T (ok_paths T k)
end
end K80
namespace K80
open PySem PySem.Spec PyProof.Rows L2 Td
theorem cat_all {K : PySem.W.Frag} {H : Hp} {a b : Addr} {xs ys : List V} {Q : V → Hp → Prop} (hA : SqT K H a xs) (hB : SqT K H b ys) (hl : xs.length + ys.length ≤ sizeLine)
    (k : ∀ (p : Addr) H', Same H H' → SqT K H' p (xs ++ ys) → Q (.ref p) H') : rCatA K (.ref a) (.ref b) H Q := by
  refine ⟨a, b, xs, ys, rfl, rfl, hA, hB, hl, fun e => ?_, fun _ e => ?_, fun _ _ p hp => ?_⟩
  · subst e; exact k b H (Same.refl _) hB
  · subst e; exact k a H (Same.refl _) (by rw [List.append_nil]; exact hA)
  · exact k p _ (Same.new hp _) (SqT.of upd_same)
theorem okDer_get {words sources : List Str} {most : Nat} : ∀ {ps : List (Str × List Td.Row)} {rd : List Str} {i : Nat} {q : Str × List Td.Row}, okDer words sources most rd ps → ps[i]? = some q →
    okRs ⟨false, words, sources, rd ++ (ps.take i).map (·.1)⟩ 1 q.2 ∧ cnts q.2 ≤ most
  | [], rd, i, q, _, h => by simp at h
  | x :: ps, rd, 0, q, h, e => by
    unfold okDer at h
    simp at e; subst e
    exact ⟨by simpa using h.1, h.2.1.1⟩
  | x :: ps, rd, i + 1, q, h, e => by
    unfold okDer at h
    have := okDer_get (i := i) (q := q) h.2.2 (by simpa using e)
    simpa using this
theorem okEff_get {words sources rd : List Str} {most : Nat} : ∀ {ps : List (Str × List Td.Row)} {i : Nat} {q : Str × List Td.Row}, okEff words sources rd most ps → ps[i]? = some q →
    okRs ⟨true, words, sources, rd⟩ 1 q.2 ∧ cnts q.2 ≤ most
  | [], i, q, _, h => by simp at h
  | x :: ps, 0, q, h, e => by
    unfold okEff at h
    simp at e; subst e
    exact ⟨h.1, h.2.1.1⟩
  | x :: ps, i + 1, q, h, e => by
    unfold okEff at h
    exact okEff_get (i := i) (q := q) h.2.2 (by simpa using e)
theorem okDer_lim {words sources : List Str} {most : Nat} : ∀ {ps : List (Str × List Td.Row)} {rd : List Str} {q : Str × List Td.Row}, okDer words sources most rd ps → q ∈ ps → Lim false most q.2
  | [], rd, q, _, h => by cases h
  | x :: ps, rd, q, h, e => by
    unfold okDer at h
    rcases List.mem_cons.mp e with rfl | e
    · exact h.2.1
    · exact okDer_lim h.2.2 e
theorem okEff_lim {words sources rd : List Str} {most : Nat} : ∀ {ps : List (Str × List Td.Row)} {q : Str × List Td.Row}, okEff words sources rd most ps → q ∈ ps → Lim true most q.2
  | [], q, _, h => by cases h
  | x :: ps, q, h, e => by
    unfold okEff at h
    rcases List.mem_cons.mp e with rfl | e
    · exact h.2.1
    · exact okEff_lim h.2.2 e
theorem scope_made {K : PySem.W.Frag} {C x dx aw as ar : Addr} {S : Sc} {H : Hp} (hx : H x = none) (hdx : H dx = none) (hne : dx ≠ x) (h1 : SqT K H aw (S.words.map V.str)) (h2 : SqT K H as (S.sources.map V.str)) (h3 : SqT K H ar (S.readable.map V.str)) :
    ∃ H3, upd (upd (upd H dx (.own x)) x (.ins C dx [])) x (.ins C dx (scF (kdS S.eff) aw as ar)) = H3 ∧ Same H H3 ∧ ScopeAt K H3 C x S := by
  have hs : Same H (upd (upd H dx (.own x)) x (.ins C dx (scF (kdS S.eff) aw as ar))) := (Same.new hdx _).trans (Same.new (by rw [upd_ne (Ne.symm hne)]; exact hx) _)
  exact ⟨_, by rw [upd_upd], hs, ⟨dx, aw, as, ar, upd_same, SqT.same hs h1, SqT.same hs h2, SqT.same hs h3⟩⟩
theorem Tn.same {K : PySem.W.Frag} {H H' : Hp} {v : V} {d : PyData} (s : Same H H') (h : Tn K H v d) : Tn K H' v d := Tn.keep (TK.of_same s) h
/-- what the parts' checks take -/
def spBodies (K : PySem.W.Frag) : Sp := fun vs H Q _ => ∃ (aw as : Addr) (vd ve : V) (p : PP) (m : Nat), vs = [.ref aw, .ref as, vd, ve] ∧ SqT K H aw (p.words.map V.str) ∧ SqT K H as (p.sources.map V.str) ∧ Tn K H vd (pairsD p.derived) ∧ Tn K H ve (pairsD p.effects) ∧
  p.Ok m ∧ m ≤ 16 ∧ ∀ H', Same H H' → Q .non H'
def progF (aw as : Addr) (vd ve : V) (dn en : Addr) : List (Str × V) := [("words", .ref aw), ("sources", .ref as), ("derived", vd), ("effects", ve), ("_derived_names", .ref dn), ("_effect_names", .ref en)]
theorem progF_put (aw as : Addr) (vd ve : V) (dn en : Addr) : putF "_effect_names" (.ref en) (putF "_derived_names" (.ref dn) (putF "effects" ve (putF "derived" vd (putF "sources" (.ref as) (putF "words" (.ref aw) []))))) = progF aw as vd ve dn en := by kernel_rfl
theorem progF_words (aw as : Addr) (vd ve : V) (dn en : Addr) : (progF aw as vd ve dn en).lookup ("words" : Str) = some (.ref aw) := by kernel_rfl
theorem progF_sources (aw as : Addr) (vd ve : V) (dn en : Addr) : (progF aw as vd ve dn en).lookup ("sources" : Str) = some (.ref as) := by kernel_rfl
theorem progF_derived (aw as : Addr) (vd ve : V) (dn en : Addr) : (progF aw as vd ve dn en).lookup ("derived" : Str) = some vd := by kernel_rfl
theorem progF_effects (aw as : Addr) (vd ve : V) (dn en : Addr) : (progF aw as vd ve dn en).lookup ("effects" : Str) = some ve := by kernel_rfl
theorem progF_dn (aw as : Addr) (vd ve : V) (dn en : Addr) : (progF aw as vd ve dn en).lookup ("_derived_names" : Str) = some (.ref dn) := by kernel_rfl
theorem progF_en (aw as : Addr) (vd ve : V) (dn en : Addr) : (progF aw as vd ve dn en).lookup ("_effect_names" : Str) = some (.ref en) := by kernel_rfl
structure ProgAt (K : PySem.W.Frag) (H : Hp) (C pa : Addr) (p : PP) : Prop where
  ex : ∃ (dx aw as : Addr) (vd ve : V), (∃ (dn en : Addr), H pa = some (.ins C dx (progF aw as vd ve dn en)) ∧ SqT K H dn (p.derived.map fun q => V.str q.1) ∧ SqT K H en (p.effects.map fun q => V.str q.1)) ∧ SqT K H aw (p.words.map V.str) ∧ SqT K H as (p.sources.map V.str) ∧ Tn K H vd (pairsD p.derived) ∧ Tn K H ve (pairsD p.effects)
theorem ProgAt.same {K : PySem.W.Frag} {H H' : Hp} {C sa : Addr} {S : PP} (h : ProgAt K H C sa S) (s : Same H H') : ProgAt K H' C sa S := by
  obtain ⟨dx, aw, as, vd, ve, ⟨dn, en, e, hdn, hen⟩, h1, h2, h3, h4⟩ := h.ex
  exact ⟨dx, aw, as, vd, ve, ⟨dn, en, s _ _ e, SqT.same s hdn, SqT.same s hen⟩, SqT.same s h1, SqT.same s h2, Tn.same s h3, Tn.same s h4⟩
def spProgram (K : PySem.W.Frag) (C : Addr) : Sp := fun vs H Q _ => ∃ (x dx aw as : Addr) (vd ve : V) (p : PP) (m : Nat), vs = [.ref x, .ref aw, .ref as, vd, ve] ∧ H x = some (.ins C dx []) ∧ SqT K H aw (p.words.map V.str) ∧ SqT K H as (p.sources.map V.str) ∧ Tn K H vd (pairsD p.derived) ∧ Tn K H ve (pairsD p.effects) ∧
  p.Ok m ∧ m ≤ 16 ∧ ∀ (dn en : Addr) H', Same H H' → SqT K (upd H' x (.ins C dx (progF aw as vd ve dn en))) dn (p.derived.map fun q => V.str q.1) → SqT K (upd H' x (.ins C dx (progF aw as vd ve dn en))) en (p.effects.map fun q => V.str q.1) → Q .non (upd H' x (.ins C dx (progF aw as vd ve dn en)))
def spBodyOf (K : PySem.W.Frag) (C : Addr) : Sp := fun vs H Q _ => ∃ (pa : Addr) (z : Str) (p : PP) (m : Nat) (q : Str × List Td.Row), vs = [.ref pa, .str z] ∧ ProgAt K H C pa p ∧ p.Ok m ∧ q ∈ p.derived ++ p.effects ∧ q.1 = z ∧
  ∀ (v : V) H', Same H H' → Tn K H' v (.tuple (rowsD q.2)) → Q v H'
def spDerivedNames (K : PySem.W.Frag) (C : Addr) : Sp := fun vs H Q _ => ∃ (pa : Addr) (p : PP) (m : Nat), vs = [.ref pa] ∧ ProgAt K H C pa p ∧ p.Ok m ∧
  ∀ (t : Addr) H', Same H H' → SqT K H' t (p.derived.map fun q => V.str q.1) → Q (.ref t) H'
section
variable {P : Program} {w : World} {K : PySem.W.Frag} {mg : Str → Option Value} {base : Heap}
theorem ok_check_body (T : Tops w K mg) (G_first_wrong_path : FnOk P w K mg base CX0 7 T.a_first_wrong_path T.d_first_wrong_path ["rows", "scope", "base", "depth"] (spFirst K T.c_Scope 4))
    (G_paths_of_rows : FnOk P w K mg base CX0 4 T.a_paths_of_rows T.d_paths_of_rows ["rows", "base"] (spPaths K 4)) :
    FnOk P w K mg base CX0 8 T.a_check_body T.d_check_body ["rows", "scope", "index"] (spBody K T.c_Scope) := by
  refine T.F_check_body.ok sc_check_body (fun vs H Q E h => ?_) (fun cdv A outer s H vs Q E hr h => ?_)
  · obtain ⟨v, sa, S, rs, i, rfl, _⟩ := h
    rfl
  obtain ⟨v, sa, S, rs, i, rfl, hD, hSc, ok, hc, q⟩ := h
  obtain ⟨a, xs, rfl, hS, hl, hx⟩ := rows_at hD
  obtain ⟨dx, aw, as, ar, e, h1, h2, h3⟩ := hSc.ex
  refine ⟨_, (pss_cons (ps_set (i := 3) sc_check_body.nd rfl (Or.inl rfl) (pe_tup (pa_cons (pe_fld (pv 1) rfl) (pa_cons (pv 2) pa_nil))))
    (pss_cons (ps_if (pt_not (pt_val (pe_callB call_isi rfl T.z_isinstance (by decide +kernel) (pa_cons (pv 0) (pa_cons (pe_bltn (v := .ty "tuple") rfl T.z_tuple (by decide +kernel) rfl) pa_nil))))) (pss_one ps_never) pss_nil)
    (pss_cons (ps_set (i := 4) sc_check_body.nd rfl (Or.inl rfl) (pe_call G_first_wrong_path (hr.mono (by omega)) rfl T.m_first_wrong_path T.F_first_wrong_path.kp T.b_first_wrong_path .nil pass0 (pa_cons (pv 0) (pa_cons (pv 1) (pa_cons (pv 3) (pa_cons pe_int pa_nil))))))
    (pss_cons (ps_if (pt_cmpR op_notN (pv 4) pe_non (nomark _)) (pss_one ps_never) pss_nil)
    (pss_one (ps_if (pt_cmpR op_gt (pe_callB call_len rfl T.z_len PySem.boot_len (pa_cons (pe_call G_paths_of_rows (hr.mono (by omega)) rfl T.m_paths_of_rows T.F_paths_of_rows.kp T.b_paths_of_rows .nil pass0 (pa_cons (pv 0) (pa_cons (pv 3) pa_nil))) pa_nil)) (pe_glob (v := .int 16) rfl T.c_MOST_ROWS ⟨_, rfl⟩) (nomark _)) (pss_one ps_never) pss_nil)))))), ?_⟩
  refine ⟨_, rfl, sa, _, dx, _, _, rfl, e, T.l_Scope, T.n_Scope_kind, scF_kind .., _, rfl, by show 2 ≤ sizeLine; decide, fun b hb => ?_⟩
  have s1 : Same H (upd H b (.tup [.str (kdS S.eff), .int i])) := Same.new hb _
  have hB : SqT K (upd H b (.tup [.str (kdS S.eff), .int i])) b [.str (kdS S.eff), .int i] := SqT.of upd_same
  show tSeq _ _ _ _ (upd H b (.tup [.str (kdS S.eff), .int i]))
  generalize upd H b (.tup [.str (kdS S.eff), .int i]) = H1 at s1 hB
  refine ⟨_, rfl, .ref a, .ty "tuple", .type "tuple", .type "tuple", true, rfl, .ty _, ty_tup (SqT.same s1 hS), kit_ty (by decide +kernel), true, rfl, if_false_of rfl ?_⟩
  refine ⟨_, rfl, _, rfl, _, rfl, _, sa, b, _, S, 1, rs, rfl, Dp.same s1 hD, hSc.same s1, hB, by simp, by simp, ok, by omega, by omega, fun H2 s2 => ?_⟩
  refine ⟨_, rfl, rfl, _, rfl, if_false_of rfl ?_⟩
  have s12 := s1.trans s2
  refine ⟨_, rfl, _, rfl, _, b, _, S, 1, rs, rfl, Dp.same s12 hD, SqT.same s2 hB, by simp, by simp, ok, by omega, by omega, by omega, fun p ys H3 s3 hp hy hyl => ?_⟩
  refine ⟨.ref p, _, rfl, .inl ⟨_, SqL.of hy, rfl⟩, _, _, rfl, rfl, _, rfl, if_false_of (decide_eq_false (by rw [hyl]; omega)) ?_⟩
  exact q H3 (s12.trans s3)
theorem ok_check_bodies (T : Tops w K mg) (G_check_body : FnOk P w K mg base CX0 8 T.a_check_body T.d_check_body ["rows", "scope", "index"] (spBody K T.c_Scope))
    (G_Scope_init : FnOk P w K mg base CX0 1 T.a_Scope_init T.d_Scope_init ["self", "kind", "words", "sources", "readable"] (spScope T.c_Scope)) :
    FnOk P w K mg base CX0 9 T.a_check_bodies T.d_check_bodies ["words", "sources", "derived", "effects"] (spBodies K) := by
  refine T.F_check_bodies.ok sc_check_bodies (fun vs H Q E h => ?_) (fun cdv A outer s H vs Q E hr h => ?_)
  · obtain ⟨aw, as, vd, ve, p, m, rfl, _⟩ := h
    rfl
  obtain ⟨aw, as, vd, ve, p, m, rfl, hW, hSo, hDe, hEf, ok, hm, q⟩ := h
  obtain ⟨ad, xs, rfl, hA, hl, hx⟩ := pairs_at hDe
  obtain ⟨ae, ys, rfl, hA2, hl2, hx2⟩ := pairs_at hEf
  refine ⟨_, (pss_cons (ps_set (i := 4) sc_check_bodies.nd rfl (Or.inl rfl) (pv 1))
    (pss_cons (ps_for PassesOwn.never rfl (pi_enumT rfl T.z_enumerate (pa_cons (pv 2) pa_nil)) (pg_tup rfl (pgs_cons (pg_name (i := 5) sc_check_bodies.nd rfl (Or.inl rfl)) (pgs_cons (pg_tup rfl (pgs_cons (pg_name (i := 6) sc_check_bodies.nd rfl (Or.inl rfl)) (pgs_cons (pg_name (i := 7) sc_check_bodies.nd rfl (Or.inl rfl)) pgs_nil))) pgs_nil))) (pss_cons (ps_expr (pe_call G_check_body (hr.mono (by omega)) rfl T.m_check_body T.F_check_body.kp T.b_check_body .nil pass0 (pa_cons (pv 7) (pa_cons (pe_make T.k_Scope G_Scope_init (hr.mono (by omega)) rfl T.m_Scope T.b_Scope_init .nil pass0 (pa_cons pe_str (pa_cons (pv 0) (pa_cons (pv 1) (pa_cons (pv 4) pa_nil))))) (pa_cons (pv 5) pa_nil)))))
    (pss_one (ps_set (i := 4) sc_check_bodies.nd rfl (Or.inl rfl) (pe_op op_catA (pv 4) (pe_tup (pa_cons (pv 6) pa_nil)))))))
    (pss_one (ps_for PassesOwn.never rfl (pi_enumT rfl T.z_enumerate (pa_cons (pv 3) pa_nil)) (pg_tup rfl (pgs_cons (pg_name (i := 5) sc_check_bodies.nd rfl (Or.inl rfl)) (pgs_cons (pg_tup rfl (pgs_cons (pg_name (i := 8) sc_check_bodies.nd rfl (Or.inl rfl)) (pgs_cons (pg_name (i := 7) sc_check_bodies.nd rfl (Or.inl rfl)) pgs_nil))) pgs_nil))) (pss_one (ps_expr (pe_call G_check_body (hr.mono (by omega)) rfl T.m_check_body T.F_check_body.kp T.b_check_body .nil pass0 (pa_cons (pv 7) (pa_cons (pe_make T.k_Scope G_Scope_init (hr.mono (by omega)) rfl T.m_Scope T.b_Scope_init .nil pass0 (pa_cons pe_str (pa_cons (pv 0) (pa_cons (pv 1) (pa_cons (pv 4) pa_nil))))) (pa_cons (pv 5) pa_nil)))))))))), ?_⟩
  refine ⟨_, rfl, ?_⟩
  refine ⟨_, rfl, ad, _, rfl, hA, for_enumT (K := K) (a := ad) (xs := xs) (fun i σ H' => ∃ (ar : Addr) (v5 v6 v7 : Option V), σ = [some (.ref aw), some (.ref as), some (.ref ad), some (.ref ae), some (.ref ar), v5, v6, v7, none] ∧ Same H H' ∧ SqT K H' ar ((p.sources ++ (p.derived.take i).map (·.1)).map V.str))
    ⟨as, none, none, none, rfl, Same.refl _, by simpa using hSo⟩ (fun i σ H' _ ⟨_, _, _, _, _, hs, _⟩ => SqT.same hs hA) ?_ ?_⟩
  · rintro i x σ H1 t hi ⟨ar, v5, v6, v7, rfl, hs, hR⟩ ht
    obtain ⟨qq, b, vr, hq, rfl, hB, hT⟩ := hx i x hi
    have hs1 : Same H (upd H1 t (.tup [.int (i : Nat), .ref b])) := hs.trans (Same.new ht _)
    have hR1 := SqT.same (Same.new ht (.tup [.int (i : Nat), .ref b])) hR
    refine ⟨t, _, rfl, SqT.of upd_same, rfl, _, _, rfl, _, _, rfl, ⟨b, _, rfl, SqT.same hs1 hB, rfl, _, _, rfl, _, _, rfl, rfl, ?_⟩⟩
    generalize upd H1 t (.tup [.int (i : Nat), .ref b]) = H2 at hs1 hR1
    obtain ⟨okd, hcd⟩ := okDer_get ok.der hq
    refine ⟨rfl, _, rfl, _, rfl, _, rfl, _, rfl, fun x dx hx hdx hne => ⟨x, dx, aw, as, ar, "derived", rfl, upd_same, rfl, _, rfl, ?_⟩⟩
    obtain ⟨H3, e3, s3, sc3⟩ := scope_made (C := T.c_Scope) (S := ⟨false, p.words, p.sources, p.sources ++ (p.derived.take i).map (·.1)⟩) hx hdx hne (SqT.same hs1 hW) (SqT.same hs1 hSo) hR1
    rw [show ("derived" : Str) = kdS false from rfl, e3]
    refine ⟨vr, x, _, qq.2, _, rfl, Dp.same (hs1.trans s3) hT.dp, sc3, okd, by omega, fun H4 s4 => ?_⟩
    have s24 := s3.trans s4
    refine ⟨_, rfl, _, rfl, by show 1 ≤ sizeLine; decide, fun t1 ht1 => ?_⟩
    have s25 := s24.trans (Same.new ht1 (.tup [.str qq.1]))
    refine cat_all (SqT.same s25 hR1) (SqT.of upd_same) (Nat.le_of_lt (small1000 ?_)) (fun ar2 H6 s6 hR6 => ?_)
    · have h1 := ok.s4
      have h2 := ok.d6
      simp
      omega
    · refine ⟨ar2, _, _, _, rfl, hs1.trans (s25.trans s6), ?_⟩
      rw [take_more hq]
      have hR7 : SqT K H6 ar2 (((p.sources ++ (p.derived.take i).map (·.1)).map V.str) ++ [V.str qq.1]) := hR6
      simpa using hR7
  · rintro σ H1 ⟨ar, v5, v6, v7, rfl, hs, hR⟩
    rw [hl, List.take_length] at hR
    refine ⟨_, rfl, ae, _, rfl, SqT.same hs hA2, for_enumT (K := K) (a := ae) (xs := ys) (fun i σ H' => ∃ (v5 v6 v7 v8 : Option V), σ = [some (.ref aw), some (.ref as), some (.ref ad), some (.ref ae), some (.ref ar), v5, v6, v7, v8] ∧ Same H1 H')
      ⟨v5, v6, v7, none, rfl, Same.refl _⟩ (fun i σ H' _ ⟨_, _, _, _, _, h⟩ => SqT.same (hs.trans h) hA2) ?_ ?_⟩
    · rintro i x σ H2 t hi ⟨v5, v6, v7, v8, rfl, hs2⟩ ht
      obtain ⟨qq, b, vr, hq, rfl, hB, hT⟩ := hx2 i x hi
      have hs3 : Same H1 (upd H2 t (.tup [.int (i : Nat), .ref b])) := hs2.trans (Same.new ht _)
      refine ⟨t, _, rfl, SqT.of upd_same, rfl, _, _, rfl, _, _, rfl, ⟨b, _, rfl, SqT.same (hs.trans hs3) hB, rfl, _, _, rfl, _, _, rfl, rfl, ?_⟩⟩
      generalize upd H2 t (.tup [.int (i : Nat), .ref b]) = H3 at hs3
      obtain ⟨okd, hcd⟩ := okEff_get ok.eff hq
      refine ⟨rfl, _, rfl, _, rfl, _, rfl, _, rfl, fun x dx hx hdx hne => ⟨x, dx, aw, as, ar, "effects", rfl, upd_same, rfl, _, rfl, ?_⟩⟩
      obtain ⟨H4, e4, s4, sc4⟩ := scope_made (C := T.c_Scope) (S := ⟨true, p.words, p.sources, p.cells⟩) hx hdx hne (SqT.same (hs.trans hs3) hW) (SqT.same (hs.trans hs3) hSo) (SqT.same hs3 hR)
      rw [show ("effects" : Str) = kdS true from rfl, e4]
      refine ⟨vr, x, _, qq.2, _, rfl, Dp.same ((hs.trans hs3).trans s4) hT.dp, sc4, okd, by omega, fun H5 s5 => ?_⟩
      exact ⟨_, _, _, _, rfl, hs3.trans (s4.trans s5)⟩
    · rintro σ H2 ⟨_, _, _, _, rfl, hs2⟩
      exact q H2 (hs.trans hs2)
end
end K80
namespace K80
open PySem PySem.Spec PyProof.Rows L2 Td
theorem names_parts {p : PP} (h : Names p.names) : Names p.sources ∧ Names (p.sources ++ p.derived.map (·.1)) ∧ Names ((p.sources ++ p.derived.map (·.1)) ++ p.effects.map (·.1)) := by
  have e : p.names = (p.sources ++ p.derived.map (·.1)) ++ p.effects.map (·.1) := rfl
  rw [e] at h
  have h2 := Names.sub h (List.sublist_append_left _ _)
  exact ⟨Names.sub h2 (List.sublist_append_left _ _), h2, h⟩
theorem pairs_append {K : PySem.W.Frag} {H : Hp} {xs ys : List V} {ps qs : List (Str × List Td.Row)} (h1 : TnAll K H xs (ps.map Td.pairD)) (h2 : TnAll K H ys (qs.map Td.pairD)) : TnAll K H (xs ++ ys) ((ps ++ qs).map Td.pairD) := by
  rw [List.map_append]; exact TnAll.append h1 h2
/-- only one pair bears a name -/
theorem pair_unique {ps : List (Str × List Td.Row)} (h : (ps.map (·.1)).Nodup) {q r : Str × List Td.Row} (hq : q ∈ ps) (hr : r ∈ ps) (e : q.1 = r.1) : q = r := by
  induction ps with
  | nil => cases hq
  | cons x l ih =>
    rw [List.map_cons, List.nodup_cons] at h
    rcases List.mem_cons.mp hq with rfl | hq'
    · rcases List.mem_cons.mp hr with rfl | hr'
      · rfl
      · exact absurd (e ▸ List.mem_map.mpr ⟨r, hr', rfl⟩) h.1
    · rcases List.mem_cons.mp hr with rfl | hr'
      · exact absurd (e.symm ▸ List.mem_map.mpr ⟨q, hq', rfl⟩) h.1
      · exact ih h.2 hq' hr'
section
variable {P : Program} {w : World} {K : PySem.W.Frag} {mg : Str → Option Value} {base : Heap}
theorem ok_check_parts (T : Tops w K mg) (G_are_names : FnOk P w K mg base CX0 2 T.a_are_names T.d_are_names ["value", "least", "most"] (spAreNames K))
    (G_are_named_pairs : FnOk P w K mg base CX0 2 T.a_are_named_pairs T.d_are_named_pairs ["value", "most", "taken"] (spNamedPairs K))
    (G_names_of : FnOk P w K mg base CX0 1 T.a_names_of T.d_names_of ["pairs"] (spNamesOf K)) :
    FnOk P w K mg base CX0 3 T.a_check_parts T.d_check_parts ["words", "sources", "derived", "effects"] (spBodies K) := by
  refine T.F_check_parts.ok sc_check_parts (fun vs H Q E h => ?_) (fun cdv A outer s H vs Q E hr h => ?_)
  · obtain ⟨aw, as, vd, ve, p, m, rfl, _⟩ := h
    rfl
  obtain ⟨aw, as, vd, ve, p, m, rfl, hW, hSo, hDe, hEf, ok, hm, q⟩ := h
  obtain ⟨n1, n2, n3⟩ := names_parts ok.nn
  have w2 := ok.w2
  have w4 := ok.w4
  have s1 := ok.s1
  have s4 := ok.s4
  have d6 := ok.d6
  have e4 := ok.e4
  refine ⟨_, (pss_cons (ps_if (pt_not (pt_val (pe_call G_are_names (hr.mono (by omega)) rfl T.m_are_names T.F_are_names.kp T.b_are_names .nil pass0 (pa_cons (pv 0) (pa_cons (pe_glob (v := .int 2) rfl T.c_LEAST_WORDS ⟨_, rfl⟩) (pa_cons (pe_glob (v := .int 4) rfl T.c_MOST_WORDS ⟨_, rfl⟩) pa_nil)))))) (pss_one ps_never) pss_nil)
    (pss_cons (ps_if (pt_not (pt_val (pe_call G_are_names (hr.mono (by omega)) rfl T.m_are_names T.F_are_names.kp T.b_are_names .nil pass0 (pa_cons (pv 1) (pa_cons (pe_glob (v := .int 1) rfl T.c_LEAST_SOURCES ⟨_, rfl⟩) (pa_cons (pe_glob (v := .int 4) rfl T.c_MOST_SOURCES ⟨_, rfl⟩) pa_nil)))))) (pss_one ps_never) pss_nil)
    (pss_cons (ps_if (pt_not (pt_val (pe_call G_are_named_pairs (hr.mono (by omega)) rfl T.m_are_named_pairs T.F_are_named_pairs.kp T.b_are_named_pairs .nil pass0 (pa_cons (pv 2) (pa_cons (pe_glob (v := .int 6) rfl T.c_MOST_DERIVED ⟨_, rfl⟩) (pa_cons (pv 1) pa_nil)))))) (pss_one ps_never) pss_nil)
    (pss_one (ps_if (pt_not (pt_val (pe_call G_are_named_pairs (hr.mono (by omega)) rfl T.m_are_named_pairs T.F_are_named_pairs.kp T.b_are_named_pairs .nil pass0 (pa_cons (pv 3) (pa_cons (pe_glob (v := .int 4) rfl T.c_MOST_EFFECTS ⟨_, rfl⟩) (pa_cons (pe_op op_catA (pv 1) (pe_call G_names_of (hr.mono (by omega)) rfl T.m_names_of T.F_names_of.kp T.b_names_of .nil pass0 (pa_cons (pv 2) pa_nil))) pa_nil)))))) (pss_one ps_never) pss_nil))))), ?_⟩
  refine ⟨_, rfl, aw, p.words, _, _, rfl, hW, ok.wn, by omega, by omega, by omega, fun H1 h1 => ⟨_, rfl, if_false_of rfl ?_⟩⟩
  refine ⟨_, rfl, as, p.sources, _, _, rfl, SqT.same h1 hSo, n1, by omega, by omega, by omega, fun H2 h2 => ⟨_, rfl, if_false_of rfl ?_⟩⟩
  have h12 := h1.trans h2
  refine ⟨_, rfl, _, rfl, vd, as, p.derived, p.sources, _, rfl, Tn.same h12 hDe, SqT.same h12 hSo, n2, by omega, by omega, by omega, fun H3 h3 => ⟨_, rfl, if_false_of rfl ?_⟩⟩
  have h13 := h12.trans h3
  refine ⟨_, rfl, _, rfl, _, rfl, vd, p.derived, rfl, Tn.same h13 hDe, by omega, fun b H4 h4 hb => ?_⟩
  have h14 := h13.trans h4
  refine cat_all (SqT.same h14 hSo) hb (Nat.le_of_lt (small1000 (by rw [List.length_map, List.length_map]; omega))) (fun c H5 h5 hc => ?_)
  refine ⟨ve, c, p.effects, p.sources ++ p.derived.map (·.1), _, rfl, Tn.same (h14.trans h5) hEf, ?_, n3, by omega, by omega, by rw [List.length_append, List.length_map]; omega, fun H6 h6 => ⟨_, rfl, if_false_of rfl ?_⟩⟩
  · have hc' : SqT K H5 c (p.sources.map V.str ++ p.derived.map fun q => V.str q.1) := hc
    rw [List.map_append, List.map_map]; exact hc'
  · exact q H6 ((h14.trans h5).trans h6)
/-- an object amid its making -/
theorem made_same {H0 H2 H3 : Hp} {x : Addr} {o o1 : HO} (s : Same H0 H2) (hx : H0 x = some o) (s3 : Same (upd H2 x o1) H3) : Same H0 (upd H3 x o) := fun b u e => by
  by_cases eb : b = x
  · subst eb; rw [hx] at e; rw [upd_same]; exact e
  · rw [upd_ne eb]; exact s3 _ _ (by rw [upd_ne eb]; exact s _ _ e)
theorem ok_program (T : Tops w K mg) (G_check_parts : FnOk P w K mg base CX0 3 T.a_check_parts T.d_check_parts ["words", "sources", "derived", "effects"] (spBodies K))
    (G_check_bodies : FnOk P w K mg base CX0 9 T.a_check_bodies T.d_check_bodies ["words", "sources", "derived", "effects"] (spBodies K))
    (G_names_of : FnOk P w K mg base CX0 1 T.a_names_of T.d_names_of ["pairs"] (spNamesOf K)) :
    FnOk P w K mg base CX0 10 T.a_Program_init T.d_Program_init ["self", "words", "sources", "derived", "effects"] (spProgram K T.c_Program) := by
  refine T.F_Program_init.ok sc_Program_init (fun vs H Q E h => ?_) (fun cdv A outer s H vs Q E hr h => ?_)
  · obtain ⟨x, dx, aw, as, vd, ve, p, m, rfl, _⟩ := h
    rfl
  obtain ⟨x, dx, aw, as, vd, ve, p, m, rfl, hx, hW, hSo, hDe, hEf, ok, hm, q⟩ := h
  refine ⟨_, (pss_cons (ps_expr (pe_call G_check_parts (hr.mono (by omega)) rfl T.m_check_parts T.F_check_parts.kp T.b_check_parts .nil pass0 (pa_cons (pv 1) (pa_cons (pv 2) (pa_cons (pv 3) (pa_cons (pv 4) pa_nil))))))
    (pss_cons (ps_expr (pe_call G_check_bodies (hr.mono (by omega)) rfl T.m_check_bodies T.F_check_bodies.kp T.b_check_bodies .nil pass0 (pa_cons (pv 1) (pa_cons (pv 2) (pa_cons (pv 3) (pa_cons (pv 4) pa_nil))))))
    (pss_cons (ps_fld (pv 0) (pv 1) rfl)
    (pss_cons (ps_fld (pv 0) (pv 2) rfl)
    (pss_cons (ps_fld (pv 0) (pv 3) rfl)
    (pss_cons (ps_fld (pv 0) (pv 4) rfl)
    (pss_cons (ps_fld (pv 0) (pe_call G_names_of (hr.mono (by omega)) rfl T.m_names_of T.F_names_of.kp T.b_names_of .nil pass0 (pa_cons (pv 3) pa_nil)) rfl)
    (pss_one (ps_fld (pv 0) (pe_call G_names_of (hr.mono (by omega)) rfl T.m_names_of T.F_names_of.kp T.b_names_of .nil pass0 (pa_cons (pv 4) pa_nil)) rfl))))))))), ?_⟩
  refine ⟨_, rfl, _, rfl, _, rfl, _, rfl, aw, as, vd, ve, p, m, rfl, hW, hSo, hDe, hEf, ok, hm, fun H1 h1 => ?_⟩
  refine ⟨_, rfl, _, rfl, _, rfl, _, rfl, aw, as, vd, ve, p, m, rfl, SqT.same h1 hW, SqT.same h1 hSo, Tn.same h1 hDe, Tn.same h1 hEf, ok, hm, fun H2 h2 => ?_⟩
  have h12 := h1.trans h2
  refine ⟨_, rfl, _, rfl, x, T.c_Program, dx, [], rfl, h12 _ _ hx, T.l_Program, T.n_Program_words, by show 0 < 1000; decide, ?_⟩
  refine ⟨_, rfl, _, rfl, x, T.c_Program, dx, _, rfl, upd_same, T.l_Program, T.n_Program_sources, by show 1 < 1000; decide, ?_⟩
  rw [upd_upd]
  refine ⟨_, rfl, _, rfl, x, T.c_Program, dx, _, rfl, upd_same, T.l_Program, T.n_Program_derived, Nat.lt_of_le_of_lt (m := 2) (Nat.le_of_eq (by kernel_rfl)) (by decide), ?_⟩
  rw [upd_upd]
  refine ⟨_, rfl, _, rfl, x, T.c_Program, dx, _, rfl, upd_same, T.l_Program, T.n_Program_effects, Nat.lt_of_le_of_lt (m := 3) (Nat.le_of_eq (by kernel_rfl)) (by decide), ?_⟩
  rw [upd_upd]
  have d6 := ok.d6
  have e4 := ok.e4
  have hx2 := h12 _ _ hx
  have tk0 : ∀ o : HO, TK H2 (upd H2 x o) := fun o => TK.upd (by rw [hx2]; trivial)
  refine ⟨_, rfl, vd, p.derived, rfl, Tn.keep (tk0 _) (Tn.same h12 hDe), by omega, fun t1 H3 s3 ht1 => ?_⟩
  have hx3 := s3 _ _ upd_same
  refine ⟨_, rfl, x, T.c_Program, dx, _, rfl, hx3, T.l_Program, T.n_Program__derived_names, Nat.lt_of_le_of_lt (m := 4) (Nat.le_of_eq (by kernel_rfl)) (by decide), ?_⟩
  have tk1 : ∀ o : HO, TK H3 (upd H3 x o) := fun o => TK.upd (by rw [hx3]; trivial)
  refine ⟨_, rfl, ve, p.effects, rfl, Tn.keep (tk1 _) (Tn.same s3 (Tn.keep (tk0 _) (Tn.same h12 hEf))), by omega, fun t2 H4 s4 ht2 => ?_⟩
  have hx4 := s4 _ _ upd_same
  refine ⟨_, rfl, x, T.c_Program, dx, _, rfl, hx4, T.l_Program, T.n_Program__effect_names, Nat.lt_of_le_of_lt (m := 5) (Nat.le_of_eq (by kernel_rfl)) (by decide), ?_⟩
  have tk2 : ∀ o : HO, TK H4 (upd H4 x o) := fun o => TK.upd (by rw [hx4]; trivial)
  have sH := made_same (made_same h12 hx s3) hx (by rw [upd_upd]; exact s4)
  rw [progF_put]
  have q2 := q t1 t2 _ sH
  rw [upd_upd] at q2
  exact q2 (SqT.tk (tk2 _) (SqT.same s4 (SqT.tk (tk1 _) ht1))) (SqT.tk (tk2 _) ht2)
theorem ok_body (T : Tops w K mg) : FnOk P w K mg base CX0 1 T.a_Program_body T.d_Program_body ["self", "name"] (spBodyOf K T.c_Program) := by
  refine T.F_Program_body.ok sc_Program_body (fun vs H Q E h => ?_) (fun cdv A outer s H vs Q E hr h => ?_)
  · obtain ⟨pa, z, p, m, qq, rfl, _⟩ := h
    rfl
  obtain ⟨pa, z, p, m, qq, rfl, hP, ok, hin, rfl, q⟩ := h
  obtain ⟨dx, aw, as, vd, ve, ⟨dn, en, e, hdn, hen⟩, h1, h2, h3, h4⟩ := hP.ex
  obtain ⟨ad, xs, rfl, hA, hTA⟩ := Tn.tup_inv h3
  obtain ⟨ae, ys, rfl, hA2, hTA2⟩ := Tn.tup_inv h4
  have d6 := ok.d6
  have e4 := ok.e4
  have lx := hTA.length
  have ly := hTA2.length
  rw [List.length_map] at lx ly
  refine ⟨_, (pss_cons (ps_for PassesOwn.never rfl (pi_tup (pe_op op_catA (pe_fld (pv 0) rfl) (pe_fld (pv 0) rfl))) (pg_tup rfl (pgs_cons (pg_name (i := 2) sc_Program_body.nd rfl (Or.inl rfl)) (pgs_cons (pg_name (i := 3) sc_Program_body.nd rfl (Or.inl rfl)) pgs_nil))) (pss_one (ps_if (pt_cmpR op_eq (pv 2) (pv 1) (nomark _)) (pss_one (ps_ret (pv 3))) pss_nil)))
    (pss_one ps_never)), ?_⟩
  refine ⟨_, rfl, pa, _, dx, _, _, rfl, e, T.l_Program, T.n_Program_derived, progF_derived .., _, rfl, pa, _, dx, _, _, rfl, e, T.l_Program, T.n_Program_effects, progF_effects .., ?_⟩
  refine cat_all hA hA2 (Nat.le_of_lt (small1000 (by omega))) (fun c H1 s1 hc => ?_)
  have hT : Tn K H1 (.ref c) (pairsD (p.derived ++ p.effects)) := .tup hc (TnAll.keep (TK.of_same s1) (pairs_append hTA hTA2))
  obtain ⟨c', zs, e2, hC, hl, hx⟩ := pairs_at hT
  cases e2
  have nd : ((p.derived ++ p.effects).map (·.1)).Nodup := by
    have := ok.nn.nd
    unfold PP.names at this
    rw [List.append_assoc] at this
    rw [List.map_append]
    exact this.sublist (List.sublist_append_right _ _)
  refine ⟨c, rfl, ⟨_, hC⟩, for_tup (K := K) (a := c) (xs := zs) (fun i σ H' => ∃ (v2 v3 : Option V), σ = [some (.ref pa), some (.str qq.1), v2, v3] ∧ Same H1 H' ∧ ∀ j r, j < i → (p.derived ++ p.effects)[j]? = some r → r.1 ≠ qq.1)
    ⟨none, none, rfl, Same.refl _, fun j r h => absurd h (Nat.not_lt_zero j)⟩ (fun i σ H' _ ⟨_, _, _, hs, _⟩ => SqT.same hs hC) ?_ ?_⟩
  · rintro i x σ H2 hi ⟨v2, v3, rfl, hs, hno⟩
    obtain ⟨r, b, vr, hr1, rfl, hB, hR⟩ := hx i x hi
    refine ⟨b, _, rfl, SqT.same hs hB, rfl, _, _, rfl, _, _, rfl, rfl, ?_⟩
    refine ⟨_, rfl, _, rfl, rfl, _, rfl, ?_⟩
    by_cases en : r.1 = qq.1
    · refine if_true_of (by rw [en]; exact decide_eq_true rfl) ?_
      have hrq : r = qq := pair_unique nd (List.mem_of_getElem? hr1) hin en
      subst hrq
      exact ⟨_, rfl, q vr H2 (s1.trans hs) (Tn.same hs hR)⟩
    · refine if_false_of (decide_eq_false (fun h => en (by injection h))) ⟨_, _, rfl, hs, fun j r' hj hr' => ?_⟩
      by_cases ej : j = i
      · subst ej; rw [hr1] at hr'; cases hr'; exact en
      · exact hno j r' (by omega) hr'
  · rintro σ H2 ⟨v2, v3, rfl, hs, hno⟩
    obtain ⟨j, hj⟩ := List.getElem?_of_mem hin
    exact absurd rfl (hno j qq (by rw [hl]; exact (List.getElem?_eq_some_iff.mp hj).1) hj)
def spEffectNames (K : PySem.W.Frag) (C : Addr) : Sp := fun vs H Q _ => ∃ (pa : Addr) (p : PP) (m : Nat), vs = [.ref pa] ∧ ProgAt K H C pa p ∧ p.Ok m ∧
  ∀ t H', Same H H' → SqT K H' t (p.effects.map fun r => V.str r.1) → Q (.ref t) H'
theorem ok_effect_names (T : Tops w K mg) :
    FnOk P w K mg base CX0 2 T.a_Program_effect_names T.d_Program_effect_names ["self"] (spEffectNames K T.c_Program) := by
  refine T.F_Program_effect_names.ok sc_Program_effect_names (fun vs H Q E h => ?_) (fun cdv A outer s H vs Q E hr h => ?_)
  · obtain ⟨pa, p, m, rfl, _⟩ := h
    rfl
  obtain ⟨pa, p, m, rfl, hP, ok, q⟩ := h
  obtain ⟨dx, aw, as, vd, ve, ⟨dn, en, e, hdn, hen⟩, h1, h2, h3, h4⟩ := hP.ex
  have e4 := ok.e4
  refine ⟨_, (pss_one (ps_ret (pe_fld (pv 0) rfl))), ?_⟩
  exact ⟨_, rfl, pa, _, dx, _, _, rfl, e, T.l_Program, T.n_Program__effect_names, progF_en .., q en H (Same.refl _) hen⟩
end
end K80
namespace K80
open PySem PySem.Spec PyProof.Rows L2 Td
def knF (kn : Td.Env) (c : Str) : Str := (getE kn c).getD ""
def rs0 (d : Str) : RS := ⟨[], [], [], [], [], d⟩
def spTrueRun (K : PySem.W.Frag) (C : Addr) : Sp := fun vs H Q _ => ∃ (x dx kd : Addr) (d : Str) (H0 : Hp), vs = [.ref x, .str d, .ref kd] ∧ H x = some (.ins C dx []) ∧ Same H0 H ∧ H0 x = none ∧
  ∀ (A : RA) H', A.ra = x → A.kd = kd → A.d = d → RunAt K C A H0 H' (rs0 d) → Q .non H'
def spWordIn (K : PySem.W.Frag) (C : Addr) : Sp := fun vs H Q _ => ∃ (A : RA) (H0 : Hp) (st : RS) (z : Str), vs = [.ref A.ra, .str z] ∧ RunAt K C A H0 H st ∧ Q (.str (st.word A.d z)) H
def spAct (K : PySem.W.Frag) (C : Addr) (ok : Td.Row → Prop) : Sp := fun vs H Q _ => ∃ (A : RA) (H0 : Hp) (st : RS) (kn : Td.Env) (v : V) (r : Td.Row) (n : Nat), vs = [.ref A.ra, v] ∧ ok r ∧ RunAt K C A H0 H st ∧ H0 A.kd = some (.dK (kv kn)) ∧ Dp K H0 v (rowD r) ∧ st.Few n ∧ n ≤ 500 ∧
  (∀ pk c s, r = .rd pk c s → (getE kn c).isSome = true) ∧ ∀ H', RunAt K C A H0 H' (runR (knF kn) A.d r st).1 → Q .non H'
def isRead (r : Td.Row) : Prop := ∃ c s, r = .rd false c s
def isPeek (r : Td.Row) : Prop := ∃ c s, r = .rd true c s
def isPut (r : Td.Row) : Prop := ∃ c s, r = .put c s
def isWrite (r : Td.Row) : Prop := ∃ c s, r = .wr c s
def isSay (r : Td.Row) : Prop := ∃ s, r = .say s
theorem fld_new {H0 H : Hp} {x p : Addr} {o u u' : HO} (hs : Same H0 H) (h0 : H0 x = none) (hx : H x = some u) (hp : H p = none) :
    ∃ Hb, upd (upd H p o) x u' = Hb ∧ Same H0 Hb ∧ H0 p = none ∧ Hb x = some u' ∧ Hb p = some o ∧ ∀ b t, b ≠ x → H b = some t → Hb b = some t := by
  have hne : p ≠ x := fun e => by rw [e, hx] at hp; cases hp
  refine ⟨_, rfl, own_same (hs.trans (Same.new hp o)) h0, ?_, upd_same, by rw [upd_ne hne]; exact upd_same, fun b t hb e => by rw [upd_ne hb]; exact Same.new hp _ _ _ e⟩
  cases e : H0 p with
  | none => rfl
  | some t => rw [hs _ _ e] at hp; cases hp
theorem get_known {H : Hp} {a : Addr} {kn : Td.Env} {c : Str} (e : H a = some (.dK (kv kn))) (hc : (getE kn c).isSome = true) : DGet H a (.str c) (some (.str (knF kn c))) := by
  have h := DGet.k (k := .inr c) e
  rw [Td.kv_get] at h
  obtain ⟨u, hu⟩ := Option.isSome_iff_exists.mp hc
  have : (getE kn c).map V.str = some (.str (knF kn c)) := by unfold knF; rw [hu]; rfl
  rw [this] at h
  exact h
theorem put_kv {H : Hp} {a : Addr} {L : Td.Env} {k v : Str} (e : H a = some (.dK (kv L))) (hl : L.length < sizeLine) : DPut H a (.str k) (.str v) (upd H a (.dK (kv (putE L k v)))) := by
  have h := DPut.k (k := .inr k) (v := .str v) e (by rw [kv_len]; exact hl)
  rw [kv_put] at h
  exact h
section
variable {P : Program} {w : World} {K : PySem.W.Frag} {mg : Str → Option Value} {base : Heap}
structure RecAt (C : Addr) (H0 H : Hp) (x dx p2 p3 p4 p5 : Addr) : Prop where
  same : Same H0 H
  f2 : H0 p2 = none
  f3 : H0 p3 = none
  f4 : H0 p4 = none
  f5 : H0 p5 = none
  n3 : p2 ≠ p3
  n4 : p4 ≠ p5
  ob : H x = some (.ins C dx (putF "given" .non (putF "written" (.ref p5) (putF "said" (.ref p4) (putF "peeked" (.ref p3) (putF "noted" (.ref p2) []))))))
  e2 : H p2 = some (.dK [])
  e3 : H p3 = some (.dK [])
  e4 : H p4 = some (.lst [])
  e5 : H p5 = some (.lst [])
def spRecord (K : PySem.W.Frag) (C : Addr) : Sp := fun vs H Q _ => ∃ (x dx : Addr) (H0 : Hp), vs = [.ref x] ∧ H x = some (.ins C dx []) ∧ Same H0 H ∧ H0 x = none ∧
  ∀ (p2 p3 p4 p5 : Addr) H', RecAt C H0 H' x dx p2 p3 p4 p5 → Q .non H'
theorem ok_record_init (T : Tops w K mg) : FnOk P w K mg base CX0 1 T.a_Record_init T.d_Record_init ["self"] (spRecord K T.c_TrueRun) := by
  refine T.F_Record_init.ok sc_Record_init (fun vs H Q E h => ?_) (fun cdv A outer s H vs Q E hr h => ?_)
  · obtain ⟨x, dx, H0, rfl, _⟩ := h
    rfl
  obtain ⟨x, dx, H0, rfl, hx, hs, h0, q⟩ := h
  refine ⟨_, (pss_cons (ps_fld (pv 0) pe_dnewK rfl)
    (pss_cons (ps_fld (pv 0) pe_dnewK rfl)
    (pss_cons (ps_fld (pv 0) (pe_lst pa_nil) rfl)
    (pss_cons (ps_fld (pv 0) (pe_lst pa_nil) rfl)
    (pss_one (ps_fld (pv 0) pe_non rfl)))))), ?_⟩
  refine fun p2 hp2 => ⟨_, rfl, x, T.c_TrueRun, dx, _, rfl, Same.new hp2 _ _ _ hx, T.l_TrueRun, T.n_TrueRun_noted, by show 0 < 1000; decide, ?_⟩
  obtain ⟨H4, e4, s4, f2, x4, y2, k4⟩ := fld_new (o := .dK []) (u' := .ins T.c_TrueRun dx (putF "noted" (.ref p2) [])) hs h0 hx hp2
  show tSeq _ _ _ _ (upd (upd H p2 (.dK [])) x (.ins T.c_TrueRun dx (putF "noted" (.ref p2) [])))
  rw [e4]
  refine fun p3 hp3 => ⟨_, rfl, x, T.c_TrueRun, dx, _, rfl, Same.new hp3 _ _ _ x4, T.l_TrueRun, T.n_TrueRun_peeked, Nat.lt_of_le_of_lt (m := 1) (Nat.le_of_eq (by kernel_rfl)) (by decide), ?_⟩
  obtain ⟨H5, e5, s5, f3, x5, y3, k5⟩ := fld_new (o := .dK []) (u' := .ins T.c_TrueRun dx (putF "peeked" (.ref p3) (putF "noted" (.ref p2) []))) s4 h0 x4 hp3
  show tSeq _ _ _ _ (upd (upd H4 p3 (.dK [])) x (.ins T.c_TrueRun dx (putF "peeked" (.ref p3) (putF "noted" (.ref p2) []))))
  rw [e5]
  have nx2 : p2 ≠ x := fun e => by rw [e, x4] at y2; cases y2
  have y25 := k5 _ _ nx2 y2
  have n23 : p2 ≠ p3 := ne_of_none y2 hp3
  have nx3 : p3 ≠ x := fun e => by rw [e, x5] at y3; cases y3
  refine ⟨by show 0 ≤ sizeLine; decide, fun p4 hp4 => ⟨_, rfl, x, T.c_TrueRun, dx, _, rfl, Same.new hp4 _ _ _ x5, T.l_TrueRun, T.n_TrueRun_said, Nat.lt_of_le_of_lt (m := 2) (Nat.le_of_eq (by kernel_rfl)) (by decide), ?_⟩⟩
  obtain ⟨H6, e6, s6, f4, x6, y4, k6⟩ := fld_new (o := .lst []) (u' := .ins T.c_TrueRun dx (putF "said" (.ref p4) (putF "peeked" (.ref p3) (putF "noted" (.ref p2) [])))) s5 h0 x5 hp4
  show tSeq _ _ _ _ (upd (upd H5 p4 (.lst [])) x (.ins T.c_TrueRun dx (putF "said" (.ref p4) (putF "peeked" (.ref p3) (putF "noted" (.ref p2) [])))))
  rw [e6]
  have nx4 : p4 ≠ x := fun e => by rw [e, x6] at y4; cases y4
  refine ⟨by show 0 ≤ sizeLine; decide, fun p5 hp5 => ⟨_, rfl, x, T.c_TrueRun, dx, _, rfl, Same.new hp5 _ _ _ x6, T.l_TrueRun, T.n_TrueRun_written, Nat.lt_of_le_of_lt (m := 3) (Nat.le_of_eq (by kernel_rfl)) (by decide), ?_⟩⟩
  obtain ⟨H7, e7, s7, f5, x7, y5, k7⟩ := fld_new (o := .lst []) (u' := .ins T.c_TrueRun dx (putF "written" (.ref p5) (putF "said" (.ref p4) (putF "peeked" (.ref p3) (putF "noted" (.ref p2) []))))) s6 h0 x6 hp5
  dsimp only
  rw [e7]
  have n45 : p4 ≠ p5 := ne_of_none y4 hp5
  have nx5 : p5 ≠ x := fun e => by rw [e, x7] at y5; cases y5
  refine ⟨_, rfl, x, T.c_TrueRun, dx, _, rfl, x7, T.l_TrueRun, T.n_TrueRun_given, Nat.lt_of_le_of_lt (m := 4) (Nat.le_of_eq (by kernel_rfl)) (by decide), ?_⟩
  refine q p2 p3 p4 p5 _ ⟨own_same s7 h0, f2, f3, f4, f5, n23, n45, upd_same, ?_, ?_, ?_, ?_⟩
  · rw [upd_ne nx2]; exact k7 _ _ nx2 (k6 _ _ nx2 y25)
  · rw [upd_ne nx3]; exact k7 _ _ nx3 (k6 _ _ nx3 y3)
  · rw [upd_ne nx4]; exact k7 _ _ nx4 y4
  · rw [upd_ne nx5]; exact y5
theorem ok_true_run_init (T : Tops w K mg) : FnOk PySem.Challenge.pw_toldonward_k80_whole_changes_keep_the_tr w K mg base CX0 2 T.a_TrueRun_init T.d_TrueRun_init ["self", "default", "known"] (spTrueRun K T.c_TrueRun) := by
  refine fn_super (N := N_TrueRun_init) T.F_TrueRun_init rfl sc_TrueRun_init rfl rfl (by decide +kernel) (by decide +kernel) (by decide +kernel) (ok_record_init T) T.b_Record_init (fun vs H Q E h => ?_) (fun A outer s H vs Q E cc cda hr h => ?_)
  · obtain ⟨x, dx, kd, d, H0, rfl, _⟩ := h
    rfl
  obtain ⟨x, dx, kd, d, H0, rfl, hx, hs, h0, q⟩ := h
  refine ⟨x, dx, [], _, rfl, hx, x, dx, H0, rfl, hx, hs, h0, fun p2 p3 p4 p5 H1 R => ⟨rfl, ?_⟩⟩
  refine ⟨_, (pss_cons (ps_fld (pv 0) (pv 1) rfl)
    (pss_cons (ps_fld (pv 0) (pv 2) rfl)
    (pss_cons (ps_fld (pv 0) pe_dnewK rfl)
    (pss_one (ps_fld (pv 0) (pv 1) rfl))))), ?_⟩
  obtain ⟨s1, f2, f3, f4, f5, n3, n4, ob, y2, y3, y4, y5⟩ := R
  have nx2 : p2 ≠ x := fun e => by rw [e, ob] at y2; cases y2
  have nx3 : p3 ≠ x := fun e => by rw [e, ob] at y3; cases y3
  have nx4 : p4 ≠ x := fun e => by rw [e, ob] at y4; cases y4
  have nx5 : p5 ≠ x := fun e => by rw [e, ob] at y5; cases y5
  refine ⟨_, rfl, _, rfl, x, T.c_TrueRun, dx, _, rfl, ob, T.l_TrueRun, T.n_TrueRun_default, Nat.lt_of_le_of_lt (m := 5) (Nat.le_of_eq (by kernel_rfl)) (by decide), ?_⟩
  refine ⟨_, rfl, _, rfl, x, T.c_TrueRun, dx, _, rfl, upd_same, T.l_TrueRun, T.n_TrueRun_known, Nat.lt_of_le_of_lt (m := 6) (Nat.le_of_eq (by kernel_rfl)) (by decide), ?_⟩
  rw [upd_upd]
  obtain ⟨H2, e2⟩ : ∃ H2, H2 = upd H1 x (.ins T.c_TrueRun dx (putF "known" (.ref kd) (putF "default" (.str d) (putF "given" .non (putF "written" (.ref p5) (putF "said" (.ref p4) (putF "peeked" (.ref p3) (putF "noted" (.ref p2) [])))))))) := ⟨_, rfl⟩
  have s2 : Same H0 H2 := by rw [e2]; exact own_same s1 h0
  have x2 : H2 x = some (.ins T.c_TrueRun dx (putF "known" (.ref kd) (putF "default" (.str d) (putF "given" .non (putF "written" (.ref p5) (putF "said" (.ref p4) (putF "peeked" (.ref p3) (putF "noted" (.ref p2) [])))))))) := by rw [e2]; exact upd_same
  have z2 : H2 p2 = some (.dK []) := by rw [e2, upd_ne nx2]; exact y2
  have z3 : H2 p3 = some (.dK []) := by rw [e2, upd_ne nx3]; exact y3
  have z4 : H2 p4 = some (.lst []) := by rw [e2, upd_ne nx4]; exact y4
  have z5 : H2 p5 = some (.lst []) := by rw [e2, upd_ne nx5]; exact y5
  show tSeq _ _ _ _ (upd H1 x (.ins T.c_TrueRun dx (putF "known" (.ref kd) (putF "default" (.str d) (putF "given" .non (putF "written" (.ref p5) (putF "said" (.ref p4) (putF "peeked" (.ref p3) (putF "noted" (.ref p2) [])))))))))
  rw [← e2]
  refine fun p1 hp1 => ⟨_, rfl, x, T.c_TrueRun, dx, _, rfl, Same.new hp1 _ _ _ x2, T.l_TrueRun, T.n_TrueRun_slots, Nat.lt_of_le_of_lt (m := 7) (Nat.le_of_eq (by kernel_rfl)) (by decide), ?_⟩
  obtain ⟨H3, e3, s3, f1, x3, y1, k3⟩ := fld_new (o := .dK []) (u' := .ins T.c_TrueRun dx (putF "slots" (.ref p1) (putF "known" (.ref kd) (putF "default" (.str d) (putF "given" .non (putF "written" (.ref p5) (putF "said" (.ref p4) (putF "peeked" (.ref p3) (putF "noted" (.ref p2) []))))))))) s2 h0 x2 hp1
  dsimp only
  rw [e3]
  have n12 : p1 ≠ p2 := (ne_of_none z2 hp1).symm
  have n13 : p1 ≠ p3 := (ne_of_none z3 hp1).symm
  have nx1 : p1 ≠ x := fun e => by rw [e, x3] at y1; cases y1
  refine ⟨_, rfl, _, rfl, x, T.c_TrueRun, dx, _, rfl, x3, T.l_TrueRun, T.n_TrueRun_given, Nat.lt_of_le_of_lt (m := 8) (Nat.le_of_eq (by kernel_rfl)) (by decide), ?_⟩
  refine q ⟨x, kd, p1, p2, p3, p4, p5, d⟩ _ rfl rfl rfl ⟨own_same s3 h0, h0, f1, f2, f3, f4, f5, n12, n13, n3, n4, ⟨dx, ?_⟩, ?_, ?_, ?_, ?_, [], ?_, .nil⟩
  · rw [upd_same]
    congr 1
  · rw [upd_ne nx1]; exact y1
  · rw [upd_ne nx2]; exact k3 _ _ nx2 z2
  · rw [upd_ne nx3]; exact k3 _ _ nx3 z3
  · rw [upd_ne nx4]; exact k3 _ _ nx4 z4
  · rw [upd_ne nx5]; exact k3 _ _ nx5 z5
theorem ok_word_in (T : Tops w K mg) : FnOk P w K mg base CX0 1 T.a_TrueRun_word_in T.d_TrueRun_word_in ["self", "slot"] (spWordIn K T.c_TrueRun) := by
  refine T.F_TrueRun_word_in.ok sc_TrueRun_word_in (fun vs H Q E h => ?_) (fun cdv A outer s H vs Q E hr h => ?_)
  · obtain ⟨A, H0, st, z, rfl, _⟩ := h
    rfl
  obtain ⟨A, H0, st, z, rfl, hR, q⟩ := h
  obtain ⟨dx, e⟩ := hR.ob
  refine ⟨_, (pss_one (ps_ret (pe_dget2 (hu_of hr) (pe_fld (pv 0) rfl) (pv 1) (pe_fld (pv 0) rfl) ⟨rfl, rfl, rfl, rfl⟩))), ?_⟩
  refine ⟨_, rfl, A.ra, _, dx, _, _, rfl, e, T.l_TrueRun, T.n_TrueRun_slots, fl_slots .., A.ps, rfl, .inl ⟨_, .inl hR.sl⟩, _, rfl, _, rfl, A.ra, _, dx, _, _, rfl, e, T.l_TrueRun, T.n_TrueRun_default, fl_default .., _, DGet.k (k := .inr z) hR.sl, ?_⟩
  have e2 : (valV (kv st.slots) (.inr z : Key)).getD (.str A.d) = .str (st.word A.d z) := by
    rw [Td.kv_get]
    unfold RS.word
    cases getE st.slots z <;> rfl
  show Q ((valV (kv st.slots) (.inr z : Key)).getD (.str A.d)) H
  rw [e2]
  exact q
end
end K80
namespace K80
open PySem PySem.Spec PyProof.Rows L2 Td
theorem upd_self {H : Hp} {a : Addr} {o : HO} (e : H a = some o) : upd H a o = H := by
  funext b
  by_cases h : b = a
  · rw [h, upd_same, e]
  · rw [upd_ne h]
theorem sd_kv {L : Td.Env} {k v : Str} {Q : V → Hp → Prop} {H : Hp} {a : Addr} (e : H a = some (.dK (kv L))) (h : ∀ (z : V), Q z (upd H a (.dK (kv (sdE L k v))))) :
    (∀ (z : V), valV (kv L) (.inr k : Key) = some z → Q z H) ∧ (valV (kv L) (.inr k : Key) = none → Q (.str v) (upd H a (.dK (putK (kv L) (.inr k) (.str v))))) := by
  refine ⟨fun z hz => ?_, fun hz => ?_⟩
  · have e1 : (getE L k).isSome = true := by
      rw [Td.kv_get] at hz
      cases hg : getE L k with
      | none => rw [hg] at hz; cases hz
      | some _ => rfl
    have e2 : sdE L k v = L := by unfold sdE; rw [if_pos e1]
    have h' := h z
    rw [e2, upd_self e] at h'
    exact h'
  · have e1 : ¬ (getE L k).isSome = true := by
      rw [Td.kv_get] at hz
      cases hg : getE L k with
      | none => simp
      | some _ => rw [hg] at hz; cases hz
    have e2 : sdE L k v = putE L k v := by unfold sdE; rw [if_neg e1]
    rw [kv_put, ← e2]
    exact h _
section
variable {P : Program} {w : World} {K : PySem.W.Frag} {mg : Str → Option Value} {base : Heap}
theorem ok_do_read (T : Tops w K mg) : FnOk P w K mg base CX0 2 T.a_do_read T.d_do_read ["run", "row"] (spAct K T.c_TrueRun isRead) := by
  refine T.F_do_read.ok sc_do_read (fun vs H Q E h => ?_) (fun cdv A outer s H vs Q E hr h => ?_)
  · obtain ⟨A, H0, st, kn, v, r, n, rfl, _⟩ := h
    rfl
  obtain ⟨A, H0, st, kn, v, r, n, rfl, ⟨c, s, rfl⟩, hR, hK, hD, few, hn, hc, q⟩ := h
  obtain ⟨a, rfl, hS0⟩ := rd_at hD
  have hS := SqT.same hR.same hS0
  obtain ⟨dx, e⟩ := hR.ob
  have f1 := few.sl
  have f2 := few.no
  refine ⟨_, (pss_cons (ps_set (i := 2) sc_do_read.nd rfl (Or.inl rfl) (pe_dget (hu_of hr) (pe_fld (pv 0) rfl) (pe_ix ix_tup (pv 1) pe_int (fun _ _ => rfl)) (fun _ _ => rfl)))
    (pss_cons (ps_dput (hu_of hr) (pe_fld (pv 0) rfl) (pe_ix ix_tup (pv 1) pe_int (fun _ _ => rfl)) (pv 2) rfl)
    (pss_one (ps_expr (pe_dsetd (pe_fld (pv 0) rfl) (pe_ix ix_tup (pv 1) pe_int (fun _ _ => rfl)) (pv 2) ⟨rfl, rfl, rfl, rfl⟩))))), ?_⟩
  refine ⟨_, rfl, A.ra, _, dx, _, _, rfl, e, T.l_TrueRun, T.n_TrueRun_known, fl_known .., _, rfl, a, _, 1, _, rfl, rfl, hS, rfl, A.kd, _, rfl, get_known (hR.same _ _ hK) (hc _ _ _ rfl), ?_⟩
  refine ⟨_, rfl, _, rfl, A.ra, _, dx, _, _, rfl, e, T.l_TrueRun, T.n_TrueRun_slots, fl_slots .., _, rfl, a, _, 2, _, rfl, rfl, hS, rfl, A.ps, _, rfl, put_kv hR.sl (small1000 (by omega)), ?_⟩
  have hR2 := hR.slots (putE st.slots s (knF kn c))
  have hS2 := SqT.same hR2.same hS0
  obtain ⟨dx2, e2⟩ := hR2.ob
  dsimp only
  generalize upd H A.ps (.dK (kv (putE st.slots s (knF kn c)))) = H2 at hR2 hS2 e2
  refine ⟨_, rfl, A.ra, _, dx2, _, _, rfl, e2, T.l_TrueRun, T.n_TrueRun_noted, fl_noted .., A.pn, rfl, .inl ⟨_, .inl hR2.no⟩, _, rfl, a, _, 1, _, rfl, rfl, hS2, rfl, _, rfl, _, .inr c, hR2.no, rfl, by rw [kv_len]; exact small1000 (by show st.noted.length ≤ 1000; omega), ?_⟩
  refine sd_kv (Q := fun _ H' => Q .non H') hR2.no (fun z => q _ ?_)
  have hR3 := hR2.noted (sdE st.noted c (knF kn c))
  simp only [runR, Bool.false_eq_true, if_false]
  exact hR3
theorem ok_do_peek (T : Tops w K mg) : FnOk P w K mg base CX0 2 T.a_do_peek T.d_do_peek ["run", "row"] (spAct K T.c_TrueRun isPeek) := by
  refine T.F_do_peek.ok sc_do_peek (fun vs H Q E h => ?_) (fun cdv A outer s H vs Q E hr h => ?_)
  · obtain ⟨A, H0, st, kn, v, r, n, rfl, _⟩ := h
    rfl
  obtain ⟨A, H0, st, kn, v, r, n, rfl, ⟨c, s, rfl⟩, hR, hK, hD, few, hn, hc, q⟩ := h
  obtain ⟨a, rfl, hS0⟩ := rd_at hD
  have hS := SqT.same hR.same hS0
  obtain ⟨dx, e⟩ := hR.ob
  have f1 := few.sl
  have f2 := few.pe
  refine ⟨_, (pss_cons (ps_set (i := 2) sc_do_peek.nd rfl (Or.inl rfl) (pe_dget (hu_of hr) (pe_fld (pv 0) rfl) (pe_ix ix_tup (pv 1) pe_int (fun _ _ => rfl)) (fun _ _ => rfl)))
    (pss_cons (ps_dput (hu_of hr) (pe_fld (pv 0) rfl) (pe_ix ix_tup (pv 1) pe_int (fun _ _ => rfl)) (pv 2) rfl)
    (pss_one (ps_expr (pe_dsetd (pe_fld (pv 0) rfl) (pe_ix ix_tup (pv 1) pe_int (fun _ _ => rfl)) (pv 2) ⟨rfl, rfl, rfl, rfl⟩))))), ?_⟩
  refine ⟨_, rfl, A.ra, _, dx, _, _, rfl, e, T.l_TrueRun, T.n_TrueRun_known, fl_known .., _, rfl, a, _, 1, _, rfl, rfl, hS, rfl, A.kd, _, rfl, get_known (hR.same _ _ hK) (hc _ _ _ rfl), ?_⟩
  refine ⟨_, rfl, _, rfl, A.ra, _, dx, _, _, rfl, e, T.l_TrueRun, T.n_TrueRun_slots, fl_slots .., _, rfl, a, _, 2, _, rfl, rfl, hS, rfl, A.ps, _, rfl, put_kv hR.sl (small1000 (by omega)), ?_⟩
  have hR2 := hR.slots (putE st.slots s (knF kn c))
  have hS2 := SqT.same hR2.same hS0
  obtain ⟨dx2, e2⟩ := hR2.ob
  dsimp only
  generalize upd H A.ps (.dK (kv (putE st.slots s (knF kn c)))) = H2 at hR2 hS2 e2
  refine ⟨_, rfl, A.ra, _, dx2, _, _, rfl, e2, T.l_TrueRun, T.n_TrueRun_peeked, fl_peeked .., A.pp, rfl, .inl ⟨_, .inl hR2.pe⟩, _, rfl, a, _, 1, _, rfl, rfl, hS2, rfl, _, rfl, _, .inr c, hR2.pe, rfl, by rw [kv_len]; exact small1000 (by show st.peeked.length ≤ 1000; omega), ?_⟩
  refine sd_kv (Q := fun _ H' => Q .non H') hR2.pe (fun z => q _ ?_)
  have hR3 := hR2.peeked (sdE st.peeked c (knF kn c))
  simp only [runR, if_true]
  exact hR3
theorem ok_do_put (T : Tops w K mg) : FnOk P w K mg base CX0 2 T.a_do_put T.d_do_put ["run", "row"] (spAct K T.c_TrueRun isPut) := by
  refine T.F_do_put.ok sc_do_put (fun vs H Q E h => ?_) (fun cdv A outer s H vs Q E hr h => ?_)
  · obtain ⟨A, H0, st, kn, v, r, n, rfl, _⟩ := h
    rfl
  obtain ⟨A, H0, st, kn, v, r, n, rfl, ⟨c, s, rfl⟩, hR, hK, hD, few, hn, hc, q⟩ := h
  obtain ⟨a, rfl, hS0⟩ := put_at hD
  have hS := SqT.same hR.same hS0
  obtain ⟨dx, e⟩ := hR.ob
  have f1 := few.sl
  refine ⟨_, (pss_one (ps_dput (hu_of hr) (pe_fld (pv 0) rfl) (pe_ix ix_tup (pv 1) pe_int (fun _ _ => rfl)) (pe_ix ix_tup (pv 1) pe_int (fun _ _ => rfl)) rfl)), ?_⟩
  refine ⟨_, rfl, a, _, 2, _, rfl, rfl, hS, rfl, _, rfl, A.ra, _, dx, _, _, rfl, e, T.l_TrueRun, T.n_TrueRun_slots, fl_slots .., _, rfl, a, _, 1, _, rfl, rfl, hS, rfl, A.ps, _, rfl, put_kv hR.sl (small1000 (by omega)), ?_⟩
  refine q _ ?_
  simp only [runR]
  exact hR.slots _
theorem ok_do_write (T : Tops w K mg) (G_TrueRun_word_in : FnOk P w K mg base CX0 1 T.a_TrueRun_word_in T.d_TrueRun_word_in ["self", "slot"] (spWordIn K T.c_TrueRun)) :
    FnOk P w K mg base CX0 2 T.a_do_write T.d_do_write ["run", "row"] (spAct K T.c_TrueRun isWrite) := by
  refine T.F_do_write.ok sc_do_write (fun vs H Q E h => ?_) (fun cdv A outer s H vs Q E hr h => ?_)
  · obtain ⟨A, H0, st, kn, v, r, n, rfl, _⟩ := h
    rfl
  obtain ⟨A, H0, st, kn, v, r, n, rfl, ⟨c, s, rfl⟩, hR, hK, hD, few, hn, hc, q⟩ := h
  obtain ⟨a, rfl, hS0⟩ := wr_at hD
  have hS := SqT.same hR.same hS0
  obtain ⟨dx, e⟩ := hR.ob
  obtain ⟨xs, x1, x2⟩ := hR.wr
  have f1 := few.wr
  have xl := x2.length
  rw [List.length_map] at xl
  refine ⟨_, (pss_one (ps_expr (pe_bm PySem.F.plainAttrs_list PySem.F.slot_list_append PySem.F.type_list_append mt_append (pe_fld (pv 0) rfl) (pa_cons (pe_tup (pa_cons (pe_ix ix_tup (pv 1) pe_int (fun _ _ => rfl)) (pa_cons (pe_meth (pv 0) T.l_TrueRun T.t_TrueRun_word_in G_TrueRun_word_in (hr.mono (by omega)) T.b_TrueRun_word_in .nil pass0 (pa_cons (pe_ix ix_tup (pv 1) pe_int (fun _ _ => rfl)) pa_nil)) pa_nil))) pa_nil)))), ?_⟩
  refine ⟨_, rfl, A.ra, _, dx, _, _, rfl, e, T.l_TrueRun, T.n_TrueRun_written, fl_written .., .inl ⟨rfl, _, SqL.of x1⟩, ?_⟩
  refine ⟨_, rfl, a, _, 1, _, rfl, rfl, hS, rfl, _, rfl, A.ra, dx, _, rfl, e, fl_none .., _, rfl, a, _, 2, _, rfl, rfl, hS, rfl, A, H0, st, s, rfl, hR, ?_⟩
  refine ⟨by show 2 ≤ sizeLine; decide, fun p hp => ?_⟩
  have s1 : Same H (upd H p (.tup [.str c, .str (st.word A.d s)])) := Same.new hp _
  refine ⟨A.pw, xs, _, rfl, rfl, s1 _ _ x1, small1000 (by omega), ?_⟩
  refine q _ ?_
  simp only [runR]
  refine (hR.go s1).write (s1 _ _ x1) ?_
  rw [List.map_append]
  exact TnAll.append (TnAll.keep (TK.of_same s1) x2) (TnAll.one (.tup (SqT.of upd_same) (.cons (.str _) (.cons (.str _) .nil))))
theorem ok_do_say (T : Tops w K mg) (G_TrueRun_word_in : FnOk P w K mg base CX0 1 T.a_TrueRun_word_in T.d_TrueRun_word_in ["self", "slot"] (spWordIn K T.c_TrueRun)) :
    FnOk P w K mg base CX0 2 T.a_do_say T.d_do_say ["run", "row"] (spAct K T.c_TrueRun isSay) := by
  refine T.F_do_say.ok sc_do_say (fun vs H Q E h => ?_) (fun cdv A outer s H vs Q E hr h => ?_)
  · obtain ⟨A, H0, st, kn, v, r, n, rfl, _⟩ := h
    rfl
  obtain ⟨A, H0, st, kn, v, r, n, rfl, ⟨s, rfl⟩, hR, hK, hD, few, hn, hc, q⟩ := h
  obtain ⟨a, rfl, hS0⟩ := say_at hD
  have hS := SqT.same hR.same hS0
  obtain ⟨dx, e⟩ := hR.ob
  have f1 := few.sa
  refine ⟨_, (pss_one (ps_expr (pe_bm PySem.F.plainAttrs_list PySem.F.slot_list_append PySem.F.type_list_append mt_append (pe_fld (pv 0) rfl) (pa_cons (pe_meth (pv 0) T.l_TrueRun T.t_TrueRun_word_in G_TrueRun_word_in (hr.mono (by omega)) T.b_TrueRun_word_in .nil pass0 (pa_cons (pe_ix ix_tup (pv 1) pe_int (fun _ _ => rfl)) pa_nil)) pa_nil)))), ?_⟩
  refine ⟨_, rfl, A.ra, _, dx, _, _, rfl, e, T.l_TrueRun, T.n_TrueRun_said, fl_said .., .inl ⟨rfl, _, SqL.of hR.sa⟩, ?_⟩
  refine ⟨_, rfl, A.ra, dx, _, rfl, e, fl_none .., _, rfl, a, _, 1, _, rfl, rfl, hS, rfl, A, H0, st, s, rfl, hR, ?_⟩
  refine ⟨A.pd, _, _, rfl, rfl, hR.sa, small1000 (by rw [List.length_map]; omega), ?_⟩
  refine q _ ?_
  simp only [runR]
  have h := hR.say (st.said ++ [st.word A.d s])
  rw [List.map_append] at h
  exact h
end
end K80
namespace K80
open PySem PySem.Spec PyProof.Rows L2 Td
def fitA (K : PySem.W.Frag) {w : World} {mg : Str → Option Value} (T : Tops w K mg) : Addr → Sp → Prop := fun f sp =>
  (f = T.a_do_read ∧ sp = spAct K T.c_TrueRun isRead) ∨ (f = T.a_do_peek ∧ sp = spAct K T.c_TrueRun isPeek) ∨ (f = T.a_do_put ∧ sp = spAct K T.c_TrueRun isPut) ∨ (f = T.a_do_write ∧ sp = spAct K T.c_TrueRun isWrite) ∨ (f = T.a_do_say ∧ sp = spAct K T.c_TrueRun isSay)
def spDoRows (K : PySem.W.Frag) (C : Addr) (k : Nat) : Sp := fun vs H Q _ => ∃ (A : RA) (H0 : Hp) (st : RS) (kn : Td.Env) (v : V) (rs : List Td.Row) (n : Nat) (S : Sc) (dep : Nat), vs = [.ref A.ra, v] ∧ RunAt K C A H0 H st ∧ H0 A.kd = some (.dK (kv kn)) ∧
  Dp K H0 v (.tuple (rowsD rs)) ∧ okRs S dep rs ∧ (∀ c ∈ S.readable, (getE kn c).isSome = true) ∧ st.Few n ∧ n + cnts rs ≤ 500 ∧ dep ≤ 4 ∧ 5 ≤ dep + k ∧
  ∀ H', RunAt K C A H0 H' (runRs (knF kn) A.d rs st).1 → Q (.bl (runRs (knF kn) A.d rs st).2) H'
section
variable {P : Program} {w : World} {K : PySem.W.Frag} {mg : Str → Option Value} {base : Heap}
theorem fitA_held (T : Tops w K mg)
    (G1 : FnOk P w K mg base CX0 2 T.a_do_read T.d_do_read ["run", "row"] (spAct K T.c_TrueRun isRead))
    (G2 : FnOk P w K mg base CX0 2 T.a_do_peek T.d_do_peek ["run", "row"] (spAct K T.c_TrueRun isPeek))
    (G3 : FnOk P w K mg base CX0 2 T.a_do_put T.d_do_put ["run", "row"] (spAct K T.c_TrueRun isPut))
    (G4 : FnOk P w K mg base CX0 2 T.a_do_write T.d_do_write ["run", "row"] (spAct K T.c_TrueRun isWrite))
    (G5 : FnOk P w K mg base CX0 2 T.a_do_say T.d_do_say ["run", "row"] (spAct K T.c_TrueRun isSay)) : ∀ f sp, fitA K T f sp → Held P w K mg base 2 f sp := by
  rintro f sp (⟨rfl, rfl⟩ | ⟨rfl, rfl⟩ | ⟨rfl, rfl⟩ | ⟨rfl, rfl⟩ | ⟨rfl, rfl⟩)
  · exact ⟨_, _, G1, T.F_do_read.kp, T.b_do_read⟩
  · exact ⟨_, _, G2, T.F_do_peek.kp, T.b_do_peek⟩
  · exact ⟨_, _, G3, T.F_do_put.kp, T.b_do_put⟩
  · exact ⟨_, _, G4, T.F_do_write.kp, T.b_do_write⟩
  · exact ⟨_, _, G5, T.F_do_say.kp, T.b_do_say⟩
theorem ok_do_rows1 (T : Tops w K mg) {n : Nat} (hn2 : 2 ≤ n) (hA : ∀ f sp, fitA K T f sp → Held P w K mg base 2 f sp)
    (G_TrueRun_word_in : FnOk P w K mg base CX0 1 T.a_TrueRun_word_in T.d_TrueRun_word_in ["self", "slot"] (spWordIn K T.c_TrueRun))
    (G_do_rows : FnOk P w K mg base CX0 n T.a_do_rows T.d_do_rows ["run", "rows"] (spDoRows K T.c_TrueRun (n - 2))) :
    FnOk P w K mg base CX0 (n + 1) T.a_do_rows T.d_do_rows ["run", "rows"] (spDoRows K T.c_TrueRun (n - 2 + 1)) := by
  refine T.F_do_rows.ok sc_do_rows (fun vs H Q E h => ?_) (fun cdv A outer s H vs Q E hr h => ?_)
  · obtain ⟨A, H0, st, kn, v, rs, m, S, dep, rfl, _⟩ := h
    rfl
  obtain ⟨A, H0, st, kn, v, rs, m, S, dep, rfl, hR, hK, hD, ok, hrd, few, hm, hdep, hn, q⟩ := h
  obtain ⟨a, xs, rfl, hS, hl, hx⟩ := rows_at hD
  refine ⟨_, (pss_cons (ps_for PassesOwn.never rfl (pi_tup (pv 1)) (pg_name (i := 2) sc_do_rows.nd rfl (Or.inl rfl)) (pss_cons (ps_if (pt_cmpR op_eq (pe_ix ix_tup (pv 2) pe_int (fun _ _ => rfl)) pe_str (nomark _)) (pss_cons (ps_fld (pv 0) (pe_meth (pv 0) T.l_TrueRun T.t_TrueRun_word_in G_TrueRun_word_in (hr.mono (by omega)) T.b_TrueRun_word_in .nil pass0 (pa_cons (pe_ix ix_tup (pv 2) pe_int (fun _ _ => rfl)) pa_nil)) rfl)
    (pss_one (ps_ret pe_bl))) pss_nil)
    (pss_one (ps_if (pt_cmpR op_eq (pe_ix ix_tup (pv 2) pe_int (fun _ _ => rfl)) pe_str (nomark _)) (pss_cons (ps_set (i := 3) sc_do_rows.nd rfl (Or.inl rfl) (pe_ifExp (pt_cmpR op_eq (pe_meth (pv 0) T.l_TrueRun T.t_TrueRun_word_in G_TrueRun_word_in (hr.mono (by omega)) T.b_TrueRun_word_in .nil pass0 (pa_cons (pe_ix ix_tup (pv 2) pe_int (fun _ _ => rfl)) pa_nil)) (pe_ix ix_tup (pv 2) pe_int (fun _ _ => rfl)) (nomark _)) (pe_ix ix_tup (pv 2) pe_int (fun _ _ => rfl)) (pe_ix ix_tup (pv 2) pe_int (fun _ _ => rfl))))
    (pss_one (ps_if (pt_val (pe_call G_do_rows (hr.mono (by omega)) rfl T.m_do_rows T.F_do_rows.kp T.b_do_rows .nil pass0 (pa_cons (pv 0) (pa_cons (pv 3) pa_nil)))) (pss_one (ps_ret pe_bl)) pss_nil))) (pss_cons (ps_set (i := 4) sc_do_rows.nd rfl (Or.inl rfl) (pe_ix ix_kdict (pe_glob (v := .ref T.a_ACTIONS) rfl T.c_ACTIONS rfl) (pe_ix ix_tup (pv 2) pe_int (fun _ _ => rfl)) (fun _ _ => rfl)))
    (pss_one (ps_expr (pe_callR (i := 4) (S := fitA K T) hA (hr.mono (by omega)) rfl (Or.inl rfl) (pa_cons (pv 0) (pa_cons (pv 2) pa_nil))))))))))
    (pss_one (ps_ret pe_bl))), ?_⟩
  refine ⟨_, rfl, a, rfl, ⟨_, SqT.same hR.same hS⟩, for_tup (K := K) (a := a) (xs := xs) (fun i σ H' => ∃ (v2 v3 v4 : Option V), σ = [some (.ref A.ra), some (.ref a), v2, v3, v4] ∧ RunAt K T.c_TrueRun A H0 H' (runRs (knF kn) A.d (rs.take i) st).1 ∧ (runRs (knF kn) A.d (rs.take i) st).2 = false)
    ⟨none, none, none, rfl, by simpa [runRs] using hR, by simp [runRs]⟩ (fun i σ H' _ ⟨_, _, _, _, h, _⟩ => SqT.same h.same hS) ?_ ?_⟩
  · rintro i x σ H1 hi ⟨v2, v3, v4, rfl, hR1, hf⟩
    obtain ⟨r, hr2, hDr⟩ := hx i x hi
    have okr := okRs_get ok hr2
    have few1 := few_Rs (knF kn) A.d (rs.take i) st m few
    have hcn : Td.cnt r + cnts (rs.take i) ≤ cnts rs := cnts_get hr2
    have nxt := runRs_next (kn := knF kn) (d := A.d) hr2 hf
    have stop := runRs_stop (kn := knF kn) (d := A.d) hr2 hf
    generalize (runRs (knF kn) A.d (rs.take i) st).1 = st1 at hR1 few1 nxt stop
    have h2 : ∀ pk c s, r = .rd pk c s → (getE kn c).isSome = true := fun pk c s e => by
      subst e; unfold okR at okr; exact hrd c okr.2.1
    obtain ⟨dx, e1⟩ := hR1.ob
    cases r with
    | give sl =>
      obtain ⟨ar, rfl, hSr0⟩ := give_at hDr
      have hSr := SqT.same hR1.same hSr0
      refine ⟨_, rfl, ar, _, 0, _, rfl, rfl, hSr, rfl, rfl, _, rfl, if_true_of (by decide +kernel) ?_⟩
      refine ⟨_, rfl, A.ra, dx, _, rfl, e1, fl_none .., _, rfl, ar, _, 1, _, rfl, rfl, hSr, rfl, A, H0, st1, sl, rfl, hR1, ?_⟩
      refine ⟨_, rfl, A.ra, _, dx, _, rfl, e1, T.l_TrueRun, T.n_TrueRun_given, by show 8 < 1000; decide, ?_⟩
      rw [fl_give]
      have eR : runR (knF kn) A.d (.give sl) st1 = ({ st1 with given := st1.word A.d sl }, true) := by simp only [runR]
      have st2 := stop (by rw [eR])
      have h := q _ (by rw [st2, eR]; exact hR1.give _ e1)
      rw [st2, eR] at h
      exact h
    | ite sl u y n' =>
      obtain ⟨ar, vy, vn, rfl, hSr0, hyD, hnD⟩ := ite_at hDr
      have hSr := SqT.same hR1.same hSr0
      have ecn : Td.cnt (Td.Row.ite sl u y n') = 1 + cnts y + cnts n' := by unfold Td.cnt; rfl
      unfold okR at okr
      refine ⟨_, rfl, ar, _, 0, _, rfl, rfl, hSr, rfl, rfl, _, rfl, if_false_of (by decide +kernel) ?_⟩
      refine ⟨_, rfl, ar, _, 0, _, rfl, rfl, hSr, rfl, rfl, _, rfl, if_true_of (by decide +kernel) ?_⟩
      refine ⟨_, rfl, A.ra, dx, _, rfl, e1, fl_none .., _, rfl, ar, _, 1, _, rfl, rfl, hSr, rfl, A, H0, st1, sl, rfl, hR1, ?_⟩
      refine ⟨_, rfl, ar, _, 2, _, rfl, rfl, hSr, rfl, rfl, _, rfl, ?_⟩
      by_cases hw : st1.word A.d sl = u
      · refine if_true_of (by rw [hw]; exact decide_eq_true rfl) ?_
        refine ⟨_, rfl, ar, _, 3, _, rfl, rfl, hSr, rfl, ?_⟩
        refine ⟨_, rfl, _, rfl, A, H0, st1, kn, vy, y, _, S, dep + 1, rfl, hR1, hK, hyD, okr.2.2.2.1, hrd, few1, by omega, by omega, by omega, fun H2 hR2 => ?_⟩
        have eR : runR (knF kn) A.d (.ite sl u y n') st1 = runRs (knF kn) A.d y st1 := by simp only [runR, if_pos hw]
        cases hb : (runRs (knF kn) A.d y st1).2 with
        | true =>
          have st2 := stop (by rw [eR]; exact hb)
          have h := q _ (by rw [st2, eR]; exact hR2)
          rw [st2, eR, hb] at h
          exact ⟨_, rfl, if_true_of rfl h⟩
        | false => exact ⟨_, rfl, if_false_of rfl ⟨_, _, _, rfl, by rw [nxt, eR]; exact hR2, by rw [nxt, eR]; exact hb⟩⟩
      · refine if_false_of (decide_eq_false (fun h => hw (by injection h))) ?_
        refine ⟨_, rfl, ar, _, 4, _, rfl, rfl, hSr, rfl, ?_⟩
        refine ⟨_, rfl, _, rfl, A, H0, st1, kn, vn, n', _, S, dep + 1, rfl, hR1, hK, hnD, okr.2.2.2.2, hrd, few1, by omega, by omega, by omega, fun H2 hR2 => ?_⟩
        have eR : runR (knF kn) A.d (.ite sl u y n') st1 = runRs (knF kn) A.d n' st1 := by simp only [runR, if_neg hw]
        cases hb : (runRs (knF kn) A.d n' st1).2 with
        | true =>
          have st2 := stop (by rw [eR]; exact hb)
          have h := q _ (by rw [st2, eR]; exact hR2)
          rw [st2, eR, hb] at h
          exact ⟨_, rfl, if_true_of rfl h⟩
        | false => exact ⟨_, rfl, if_false_of rfl ⟨_, _, _, rfl, by rw [nxt, eR]; exact hR2, by rw [nxt, eR]; exact hb⟩⟩
    | rd pk c s =>
      obtain ⟨ar, rfl, hSr0⟩ := rd_at hDr
      have hSr := SqT.same hR1.same hSr0
      cases pk with
      | false =>
        refine ⟨_, rfl, ar, _, 0, _, rfl, rfl, hSr, rfl, rfl, _, rfl, if_false_of (by decide +kernel) ?_⟩
        refine ⟨_, rfl, ar, _, 0, _, rfl, rfl, hSr, rfl, rfl, _, rfl, if_false_of (by decide +kernel) ?_⟩
        refine ⟨_, rfl, ar, _, 0, _, rfl, rfl, hSr, rfl, _, _, _, rfl, rfl, T.w_ACTIONS_read, ?_⟩
        refine ⟨_, _, rfl, .inl ⟨rfl, rfl⟩, _, rfl, _, rfl, A, H0, st1, kn, _, _, _, rfl, ⟨c, s, rfl⟩, hR1, hK, hDr, few1, by omega, h2, fun H2 hR2 => ?_⟩
        have eR : (runR (knF kn) A.d (.rd false c s) st1).2 = false := by simp only [runR]
        exact ⟨_, _, _, rfl, by rw [nxt]; exact hR2, by rw [nxt, eR]⟩
      | true =>
        refine ⟨_, rfl, ar, _, 0, _, rfl, rfl, hSr, rfl, rfl, _, rfl, if_false_of (by decide +kernel) ?_⟩
        refine ⟨_, rfl, ar, _, 0, _, rfl, rfl, hSr, rfl, rfl, _, rfl, if_false_of (by decide +kernel) ?_⟩
        refine ⟨_, rfl, ar, _, 0, _, rfl, rfl, hSr, rfl, _, _, _, rfl, rfl, T.w_ACTIONS_peek, ?_⟩
        refine ⟨_, _, rfl, .inr (.inl ⟨rfl, rfl⟩), _, rfl, _, rfl, A, H0, st1, kn, _, _, _, rfl, ⟨c, s, rfl⟩, hR1, hK, hDr, few1, by omega, h2, fun H2 hR2 => ?_⟩
        have eR : (runR (knF kn) A.d (.rd true c s) st1).2 = false := by simp only [runR]
        exact ⟨_, _, _, rfl, by rw [nxt]; exact hR2, by rw [nxt, eR]⟩
    | put c s =>
      obtain ⟨ar, rfl, hSr0⟩ := put_at hDr
      have hSr := SqT.same hR1.same hSr0
      refine ⟨_, rfl, ar, _, 0, _, rfl, rfl, hSr, rfl, rfl, _, rfl, if_false_of (by decide +kernel) ?_⟩
      refine ⟨_, rfl, ar, _, 0, _, rfl, rfl, hSr, rfl, rfl, _, rfl, if_false_of (by decide +kernel) ?_⟩
      refine ⟨_, rfl, ar, _, 0, _, rfl, rfl, hSr, rfl, _, _, _, rfl, rfl, T.w_ACTIONS_put, ?_⟩
      refine ⟨_, _, rfl, .inr (.inr (.inl ⟨rfl, rfl⟩)), _, rfl, _, rfl, A, H0, st1, kn, _, _, _, rfl, ⟨c, s, rfl⟩, hR1, hK, hDr, few1, by omega, h2, fun H2 hR2 => ?_⟩
      have eR : (runR (knF kn) A.d (.put c s) st1).2 = false := by simp only [runR]
      exact ⟨_, _, _, rfl, by rw [nxt]; exact hR2, by rw [nxt, eR]⟩
    | wr c s =>
      obtain ⟨ar, rfl, hSr0⟩ := wr_at hDr
      have hSr := SqT.same hR1.same hSr0
      refine ⟨_, rfl, ar, _, 0, _, rfl, rfl, hSr, rfl, rfl, _, rfl, if_false_of (by decide +kernel) ?_⟩
      refine ⟨_, rfl, ar, _, 0, _, rfl, rfl, hSr, rfl, rfl, _, rfl, if_false_of (by decide +kernel) ?_⟩
      refine ⟨_, rfl, ar, _, 0, _, rfl, rfl, hSr, rfl, _, _, _, rfl, rfl, T.w_ACTIONS_write, ?_⟩
      refine ⟨_, _, rfl, .inr (.inr (.inr (.inl ⟨rfl, rfl⟩))), _, rfl, _, rfl, A, H0, st1, kn, _, _, _, rfl, ⟨c, s, rfl⟩, hR1, hK, hDr, few1, by omega, h2, fun H2 hR2 => ?_⟩
      have eR : (runR (knF kn) A.d (.wr c s) st1).2 = false := by simp only [runR]
      exact ⟨_, _, _, rfl, by rw [nxt]; exact hR2, by rw [nxt, eR]⟩
    | say s =>
      obtain ⟨ar, rfl, hSr0⟩ := say_at hDr
      have hSr := SqT.same hR1.same hSr0
      refine ⟨_, rfl, ar, _, 0, _, rfl, rfl, hSr, rfl, rfl, _, rfl, if_false_of (by decide +kernel) ?_⟩
      refine ⟨_, rfl, ar, _, 0, _, rfl, rfl, hSr, rfl, rfl, _, rfl, if_false_of (by decide +kernel) ?_⟩
      refine ⟨_, rfl, ar, _, 0, _, rfl, rfl, hSr, rfl, _, _, _, rfl, rfl, T.w_ACTIONS_say, ?_⟩
      refine ⟨_, _, rfl, .inr (.inr (.inr (.inr ⟨rfl, rfl⟩))), _, rfl, _, rfl, A, H0, st1, kn, _, _, _, rfl, ⟨s, rfl⟩, hR1, hK, hDr, few1, by omega, h2, fun H2 hR2 => ?_⟩
      have eR : (runR (knF kn) A.d (.say s) st1).2 = false := by simp only [runR]
      exact ⟨_, _, _, rfl, by rw [nxt]; exact hR2, by rw [nxt, eR]⟩
  · rintro σ H1 ⟨v2, v3, v4, rfl, hR1, hf⟩
    rw [hl, List.take_length] at hR1 hf
    have h := q _ hR1
    rw [hf] at h
    exact h
theorem ok_do_rows (T : Tops w K mg) (hA : ∀ f sp, fitA K T f sp → Held P w K mg base 2 f sp)
    (G1 : FnOk P w K mg base CX0 1 T.a_TrueRun_word_in T.d_TrueRun_word_in ["self", "slot"] (spWordIn K T.c_TrueRun)) :
    ∀ k, FnOk P w K mg base CX0 (k + 2) T.a_do_rows T.d_do_rows ["run", "rows"] (spDoRows K T.c_TrueRun k)
  | 0 => by
    have no : ∀ vs H Q E, ¬ spDoRows K T.c_TrueRun 0 vs H Q E := fun vs H Q E h => by
      obtain ⟨_, _, _, _, _, _, _, _, dep, _, _, _, _, _, _, _, _, h1, h2, _⟩ := h
      omega
    exact ⟨fun vs H Q E h => absurd h (no vs H Q E), fun A outer s H args us vs Q E _ _ _ _ h => absurd h (no vs H Q E)⟩
  | k + 1 => ok_do_rows1 T (n := k + 2) (by omega) hA G1 (ok_do_rows T hA G1 k)
end
end K80
namespace K80
open PySem PySem.Spec PyProof.Rows L2 Td
def d0 (p : PP) : Str := p.words.headD ""
theorem d0_at {p : PP} {m : Nat} (ok : p.Ok m) : atI (p.words.map V.str) 0 = some (.str (d0 p)) := by
  have h := ok.w2
  unfold d0
  cases hw : p.words with
  | nil => rw [hw] at h; simp at h
  | cons z r => exact atI_nat (j := 0) rfl
def spTruly (K : PySem.W.Frag) (CP C : Addr) : Sp := fun vs H Q _ => ∃ (pa kd : Addr) (v : V) (p : PP) (m : Nat) (rs : List Td.Row) (kn : Td.Env) (S : Sc), vs = [.ref pa, .ref kd, v] ∧ ProgAt K H CP pa p ∧ p.Ok m ∧ H kd = some (.dK (kv kn)) ∧
  Dp K H v (.tuple (rowsD rs)) ∧ okRs S 1 rs ∧ (∀ c ∈ S.readable, (getE kn c).isSome = true) ∧ cnts rs ≤ 100 ∧
  ∀ (A : RA) H', A.kd = kd → A.d = d0 p → RunAt K C A H H' (runRs (knF kn) (d0 p) rs (rs0 (d0 p))).1 → Q (.ref A.ra) H'
def spStart (K : PySem.W.Frag) (CP : Addr) : Sp := fun vs H Q _ => ∃ (pa wa : Addr) (p : PP) (m : Nat) (ws : List Str), vs = [.ref pa, .ref wa] ∧ ProgAt K H CP pa p ∧ p.Ok m ∧ SqT K H wa (ws.map V.str) ∧ ws.length = p.sources.length ∧ (∀ z ∈ ws, z ∈ p.words) ∧
  ∀ H', Same H H' → Q .non H'
section
variable {P : Program} {w : World} {K : PySem.W.Frag} {mg : Str → Option Value} {base : Heap}
theorem ok_truly (T : Tops w K mg) (G_TrueRun_init : FnOk P w K mg base CX0 2 T.a_TrueRun_init T.d_TrueRun_init ["self", "default", "known"] (spTrueRun K T.c_TrueRun))
    (G_do_rows : FnOk P w K mg base CX0 6 T.a_do_rows T.d_do_rows ["run", "rows"] (spDoRows K T.c_TrueRun 4)) :
    FnOk P w K mg base CX0 7 T.a_run_truly T.d_run_truly ["program", "known", "rows"] (spTruly K T.c_Program T.c_TrueRun) := by
  refine T.F_run_truly.ok sc_run_truly (fun vs H Q E h => ?_) (fun cdv A outer s H vs Q E hr h => ?_)
  · obtain ⟨pa, kd, v, p, m, rs, kn, S, rfl, _⟩ := h
    rfl
  obtain ⟨pa, kd, v, p, m, rs, kn, S, rfl, hP, ok, hK, hD, okr, hrd, hc, q⟩ := h
  obtain ⟨dx, aw, as, vd, ve, ⟨dn, en, e, hdn, hen⟩, h1, h2, h3, h4⟩ := hP.ex
  refine ⟨_, (pss_cons (ps_set (i := 3) sc_run_truly.nd rfl (Or.inl rfl) (pe_make T.k_TrueRun G_TrueRun_init (hr.mono (by omega)) rfl T.m_TrueRun T.b_TrueRun_init .nil pass0 (pa_cons (pe_ix ix_tup (pe_fld (pv 0) rfl) pe_int (fun _ _ => rfl)) (pa_cons (pv 1) pa_nil))))
    (pss_cons (ps_expr (pe_call G_do_rows (hr.mono (by omega)) rfl T.m_do_rows T.F_do_rows.kp T.b_do_rows .nil pass0 (pa_cons (pv 3) (pa_cons (pv 2) pa_nil))))
    (pss_one (ps_ret (pv 3))))), ?_⟩
  refine ⟨_, rfl, pa, _, dx, _, _, rfl, e, T.l_Program, T.n_Program_words, progF_words .., aw, _, 0, _, rfl, rfl, h1, d0_at ok, _, rfl, fun x dx2 hx hdx hne => ?_⟩
  have hs : Same H (upd (upd H dx2 (.own x)) x (.ins T.c_TrueRun dx2 [])) := (Same.new hdx _).trans (Same.new (by rw [upd_ne (Ne.symm hne)]; exact hx) _)
  refine ⟨x, dx2, kd, d0 p, H, rfl, upd_same, hs, hx, fun A' H1 hA hkd hd hR => ⟨rfl, ?_⟩⟩
  subst hA
  refine ⟨_, rfl, _, rfl, A', H, _, kn, v, rs, 0, S, 1, rfl, hR, by rw [hkd]; exact hK, hD, okr, hrd, ⟨Nat.le_refl _, Nat.le_refl _, Nat.le_refl _, Nat.le_refl _, Nat.le_refl _⟩, by omega, by omega, by omega, fun H2 hR2 => ?_⟩
  rw [hd] at hR2
  exact ⟨_, rfl, q A' H2 hkd hd hR2⟩
def spIsStart (K : PySem.W.Frag) (CP : Addr) : Sp := fun vs H Q _ => ∃ (pa wa : Addr) (p : PP) (m : Nat) (ws : List Str), vs = [.ref pa, .ref wa] ∧ ProgAt K H CP pa p ∧ p.Ok m ∧ SqT K H wa (ws.map V.str) ∧ ws.length = p.sources.length ∧ (∀ z ∈ ws, z ∈ p.words) ∧
  ∀ H', Same H H' → Q (.bl true) H'
theorem ok_is_start (T : Tops w K mg) : FnOk P w K mg base CX0 1 T.a_is_start T.d_is_start ["program", "words"] (spIsStart K T.c_Program) := by
  refine T.F_is_start.ok sc_is_start (fun vs H Q E h => ?_) (fun cdv A outer s H vs Q E hr h => ?_)
  · obtain ⟨pa, wa, p, m, ws, rfl, _⟩ := h
    rfl
  obtain ⟨pa, wa, p, m, ws, rfl, hP, ok, hW, hl, hw, q⟩ := h
  obtain ⟨dx, aw, as, vd, ve, ⟨dn, en, e, hdn, hen⟩, h1, h2, h3, h4⟩ := hP.ex
  have s4 := ok.s4
  refine ⟨_, (pss_cons (ps_if (PW.pt (pw_or (pt_not (pt_val (pe_callB call_isi rfl T.z_isinstance (by decide +kernel) (pa_cons (pv 1) (pa_cons (pe_bltn (v := .ty "tuple") rfl T.z_tuple (by decide +kernel) rfl) pa_nil))))) (pw_or1 (pt_cmpR op_ne (pe_callB call_len rfl T.z_len PySem.boot_len (pa_cons (pv 1) pa_nil)) (pe_callB call_len rfl T.z_len PySem.boot_len (pa_cons (pe_fld (pv 0) rfl) pa_nil)) (nomark _))))) (pss_one (ps_ret pe_bl)) pss_nil)
    (pss_one (ps_ret (pe_callB (cr_all rfl) rfl T.z_all (by decide +kernel) (pa_cons (pe_lc (own := [("word", 2)]) (g := gName 2) (tt := tYes) (te := tOp (rIn K false) (tVar 2) (tFld K (tVar 0) "words")) rfl sc_is_start.nd (pi_tup (pv 1)) (blkOk_by (own := [("word", 2)]) (N := N_is_start) (sc := defScope s_is_start) (by decide +kernel)) (fun _ _ _ _ _ => (pg_name (i := 2) sc_is_start.nd rfl (Or.inl rfl))) (fun _ _ _ _ _ => pts_nil) (fun _ _ _ _ _ => (pe_cmpR op_in_seq (pv 2) (pe_fld (pv 0) rfl) (by rfl)))) pa_nil))))), ?_⟩
  refine ⟨_, rfl, .ref wa, .ty "tuple", .type "tuple", .type "tuple", true, rfl, .ty _, ty_tup hW, kit_ty (by decide +kernel), true, rfl, iteF ?_⟩
  refine ⟨_, rfl, .ref wa, _, rfl, .inr ⟨_, hW, rfl⟩, _, rfl, pa, _, dx, _, _, rfl, e, T.l_Program, T.n_Program_sources, progF_sources .., .ref as, _, rfl, .inr ⟨_, h2, rfl⟩, rfl, _, rfl, ?_⟩
  refine if_false_of (by rw [List.length_map, List.length_map, hl]; show (!decide (V.int (p.sources.length : Nat) = V.int (p.sources.length : Nat))) = false; rw [decide_eq_true rfl]; rfl) ?_
  refine ⟨_, rfl, wa, rfl, ⟨_, hW⟩, fun D hD => lc_tup (K := K) (a := wa) (xs := ws.map V.str) (fun i H' => ∃ bs : List Bool, Same H H' ∧ H' D = some (.lst (bs.map V.bl)) ∧ bs.length = i ∧ bs.all id = true)
    ⟨[], Same.new hD _, upd_same, rfl, rfl⟩ (fun i H' _ ⟨_, hs, _⟩ => SqT.same hs hW) ?_ ?_⟩
  · rintro i x H' hx ⟨bs, hs, hb, hl', ha⟩
    rw [List.getElem?_map] at hx
    obtain ⟨z, hz, rfl⟩ := Option.map_eq_some_iff.mp hx
    have hi : i < ws.length := (List.getElem?_eq_some_iff.mp hz).1
    refine ⟨rfl, ?_⟩
    refine tYes_of ?_
    refine ⟨_, rfl, _, rfl, pa, _, dx, _, _, rfl, hs _ _ e, T.l_Program, T.n_Program_words, progF_words .., aw, _, rfl, .inr (SqT.same hs h1), rfl, L2.flat_strs _, ?_⟩
    refine ⟨_, hb, small1000 (by rw [List.length_map]; omega), bs ++ [true], ?_, by rw [upd_same, List.map_append, in_of (hw z (List.mem_of_getElem? hz))]; rfl, by rw [List.length_append, hl']; rfl, by rw [List.all_append, ha]; rfl⟩
    intro b o e
    rw [upd_ne (ne_of_none e hD)]
    exact hs b o e
  · rintro H' ⟨bs, hs, hb, hl', ha⟩
    refine ⟨D, bs, rfl, SqL.of hb, ?_⟩
    rw [ha]
    exact q H' hs
theorem ok_start (T : Tops w K mg) (G_is_start : FnOk P w K mg base CX0 1 T.a_is_start T.d_is_start ["program", "words"] (spIsStart K T.c_Program)) : FnOk P w K mg base CX0 2 T.a_check_start T.d_check_start ["program", "words"] (spStart K T.c_Program) := by
  refine T.F_check_start.ok sc_check_start (fun vs H Q E h => ?_) (fun cdv A outer s H vs Q E hr h => ?_)
  · obtain ⟨pa, wa, p, m, ws, rfl, _⟩ := h
    rfl
  obtain ⟨pa, wa, p, m, ws, rfl, hP, ok, hW, hl, hw, q⟩ := h
  refine ⟨_, (pss_one (ps_if (pt_not (pt_val (pe_call G_is_start (hr.mono (by omega)) rfl T.m_is_start T.F_is_start.kp T.b_is_start .nil pass0 (pa_cons (pv 0) (pa_cons (pv 1) pa_nil))))) (pss_one ps_never) pss_nil)), ?_⟩
  exact ⟨_, rfl, _, rfl, pa, wa, p, m, ws, rfl, hP, ok, hW, hl, hw, fun H' s' => ⟨_, rfl, if_false_of rfl (q H' s')⟩⟩
end
end K80
namespace K80
open PySem PySem.Spec PyProof.Rows L2 Td
/-- the words told, a derived cell's behind those ahead of it -/
def tell (d : Str) : Td.Env → List (Str × List Td.Row) → Td.Env
  | kn, [] => kn
  | kn, q :: ps => tell d (putE kn q.1 (runRs (knF kn) d q.2 (rs0 d)).1.given) ps
theorem tell_snoc (d : Str) : ∀ (ps : List (Str × List Td.Row)) (kn : Td.Env) (q : Str × List Td.Row), tell d kn (ps ++ [q]) = putE (tell d kn ps) q.1 (runRs (knF (tell d kn ps)) d q.2 (rs0 d)).1.given
  | [], kn, q => rfl
  | r :: ps, kn, q => tell_snoc d ps _ q
theorem tell_len (d : Str) : ∀ (ps : List (Str × List Td.Row)) (kn : Td.Env), (tell d kn ps).length ≤ kn.length + ps.length
  | [], kn => Nat.le_refl _
  | r :: ps, kn => by
    refine Nat.le_trans (tell_len d ps _) ?_
    have := putE_len kn r.1 (runRs (knF kn) d r.2 (rs0 d)).1.given
    rw [List.length_cons]; omega
theorem tell_has (d : Str) (c : Str) : ∀ (ps : List (Str × List Td.Row)) (kn : Td.Env), (getE kn c).isSome = true ∨ c ∈ ps.map (·.1) → (getE (tell d kn ps) c).isSome = true
  | [], kn, h => by
    rcases h with h | h
    · exact h
    · cases h
  | r :: ps, kn, h => by
    refine tell_has d c ps _ ?_
    rw [getE_put]
    by_cases e : c = r.1
    · exact .inl (by rw [if_pos e]; rfl)
    · rcases h with h | h
      · exact .inl (by rw [if_neg e]; exact h)
      · rcases List.mem_cons.mp h with h | h
        · exact absurd h e
        · exact .inr h
theorem zip_has {c : Str} : ∀ {ss ws : List Str}, c ∈ ss → ss.length = ws.length → (getE (ss.zip ws) c).isSome = true
  | [], _, h, _ => by cases h
  | s :: ss, [], _, h => by cases h
  | s :: ss, w :: ws, h, hl => by
    rw [List.zip_cons_cons, getE_cons]
    by_cases e : s = c
    · simp [e]
    · rw [if_neg e]
      refine zip_has ?_ (by simpa using hl)
      rcases List.mem_cons.mp h with h | h
      · exact absurd h.symm e
      · exact h
def known0 (p : PP) (ws : List Str) : Td.Env := tell (d0 p) (p.sources.zip ws) p.derived
theorem merge_kv (L : Td.Env) : ∀ M : Td.Env, ((M ++ L).map (·.1)).Nodup → mergeK (kv M) (kv L) = kv (M ++ L) := by
  induction L with
  | nil => intro M _; rw [List.append_nil]; rfl
  | cons p r ih =>
    intro M h
    have e : M ++ p :: r = (M ++ [p]) ++ r := by simp
    have hn : ¬ (M.any fun q => decide (q.1 = p.1)) = true := by
      intro hh
      obtain ⟨q, hq, he⟩ := List.any_eq_true.mp hh
      rw [List.map_append, List.map_cons] at h
      exact (List.nodup_append.mp h).2.2 q.1 (List.mem_map.mpr ⟨q, hq, rfl⟩) p.1 List.mem_cons_self (of_decide_eq_true he)
    have e2 : putE M p.1 p.2 = M ++ [p] := by unfold putE; rw [if_neg hn]
    rw [e] at h ⊢
    rw [← ih (M ++ [p]) h, ← e2, ← kv_put]
    rfl
theorem kv_zip (ss ws : List Str) : kv (ss.zip ws) = (ss.map Sum.inr : List Key).zip (ws.map V.str) := by
  unfold kv
  rw [List.zip_map]
  rfl
def spKnown (K : PySem.W.Frag) (CP : Addr) : Sp := fun vs H Q _ => ∃ (pa wa : Addr) (p : PP) (m : Nat) (ws : List Str), vs = [.ref pa, .ref wa] ∧ ProgAt K H CP pa p ∧ p.Ok m ∧ m ≤ 16 ∧ SqT K H wa (ws.map V.str) ∧ ws.length = p.sources.length ∧
  ∀ (kd : Addr) H', Same H H' → H' kd = some (.dK (kv (known0 p ws))) → Q (.ref kd) H'
theorem cellsNodup {p : PP} {m : Nat} (ok : p.Ok m) : p.sources.Nodup := by
  have h := ok.nn.nd
  unfold PP.names at h
  rw [List.append_assoc] at h
  exact h.sublist (List.sublist_append_left _ _)
section
variable {P : Program} {w : World} {K : PySem.W.Frag} {mg : Str → Option Value} {base : Heap}
theorem ok_known (T : Tops w K mg) (G_run_truly : FnOk P w K mg base CX0 7 T.a_run_truly T.d_run_truly ["program", "known", "rows"] (spTruly K T.c_Program T.c_TrueRun)) :
    FnOk P w K mg base CX0 8 T.a_known_words T.d_known_words ["program", "words"] (spKnown K T.c_Program) := by
  refine T.F_known_words.ok sc_known_words (fun vs H Q E h => ?_) (fun cdv A outer s H vs Q E hr h => ?_)
  · obtain ⟨pa, wa, p, m, ws, rfl, _⟩ := h
    rfl
  obtain ⟨pa, wa, p, m, ws, rfl, hP, ok, hm, hW, hl, q⟩ := h
  obtain ⟨dx, aw, as, vd, ve, ⟨dn, en, e, hdn, hen⟩, h1, h2, h3, h4⟩ := hP.ex
  have s4 := ok.s4
  have d6 := ok.d6
  obtain ⟨ad, xs, rfl, hA, hxl, hx⟩ := pairs_at h3
  refine ⟨_, (pss_cons (ps_set (i := 2) sc_known_words.nd rfl (Or.inl rfl) (pe_dictZip rfl rfl T.z_dict rfl T.z_zip (pa_cons (pe_fld (pv 0) rfl) (pa_cons (pv 1) pa_nil))))
    (pss_cons (ps_for PassesOwn.never rfl (pi_tup (pe_fld (pv 0) rfl)) (pg_tup rfl (pgs_cons (pg_name (i := 3) sc_known_words.nd rfl (Or.inl rfl)) (pgs_cons (pg_name (i := 4) sc_known_words.nd rfl (Or.inl rfl)) pgs_nil))) (pss_one (ps_dput (hu_of hr) (pv 2) (pv 3) (pe_fld (pe_call G_run_truly (hr.mono (by omega)) rfl T.m_run_truly T.F_run_truly.kp T.b_run_truly .nil pass0 (pa_cons (pv 0) (pa_cons (pv 2) (pa_cons (pv 4) pa_nil)))) rfl) rfl)))
    (pss_one (ps_ret (pv 2))))), ?_⟩
  refine ⟨_, rfl, pa, _, dx, _, _, rfl, e, T.l_Program, T.n_Program_sources, progF_sources .., _, rfl, as, wa, p.sources.map Sum.inr, ws.map V.str, rfl, by rw [List.map_map]; exact h2, hW, by rw [List.length_map, List.length_map, hl], fun kd hkd => ?_⟩
  have em : mergeK [] ((p.sources.map Sum.inr : List Key).zip (ws.map V.str)) = kv (p.sources.zip ws) := by
    rw [← kv_zip]
    refine merge_kv (p.sources.zip ws) [] ?_
    rw [List.nil_append, List.map_fst_zip (Nat.le_of_eq hl.symm)]
    exact cellsNodup ok
  rw [em]
  have hs0 : Same H (upd H kd (.dK (kv (p.sources.zip ws)))) := Same.new hkd _
  have hK0 : upd H kd (.dK (kv (p.sources.zip ws))) kd = some (.dK (kv (p.sources.zip ws))) := upd_same
  dsimp only
  generalize upd H kd (.dK (kv (p.sources.zip ws))) = H1 at hs0 hK0
  have zl : (p.sources.zip ws).length ≤ 4 := by rw [List.length_zip]; omega
  refine ⟨_, rfl, pa, _, dx, _, _, rfl, hs0 _ _ e, T.l_Program, T.n_Program_derived, progF_derived .., ad, rfl, ⟨_, SqT.same hs0 hA⟩, for_tup (K := K) (a := ad) (xs := xs) (fun i σ H' => ∃ (v3 v4 : Option V), σ = [some (.ref pa), some (.ref wa), some (.ref kd), v3, v4] ∧ Same H H' ∧ H' kd = some (.dK (kv (tell (d0 p) (p.sources.zip ws) (p.derived.take i)))))
    ⟨none, none, rfl, hs0, hK0⟩ (fun i σ H' _ ⟨_, _, _, hs, _⟩ => SqT.same hs hA) ?_ ?_⟩
  · rintro i x σ H2 hi ⟨v3, v4, rfl, hs, hK⟩
    obtain ⟨qq, b, vr, hq, rfl, hB, hT⟩ := hx i x hi
    obtain ⟨okd, hcd⟩ := okDer_get ok.der hq
    refine ⟨b, _, rfl, SqT.same hs hB, rfl, _, _, rfl, _, _, rfl, rfl, ?_⟩
    refine ⟨_, rfl, _, rfl, _, rfl, pa, kd, vr, p, m, qq.2, _, _, rfl, hP.same hs, ok, hK, Dp.same hs hT.dp, okd, fun c hc => ?_, by omega, fun A' H3 hkd' hd' hR => ?_⟩
    · refine tell_has _ _ _ _ ?_
      rcases List.mem_append.mp hc with h | h
      · exact .inl (zip_has h hl.symm)
      · exact .inr h
    · obtain ⟨dx2, e2⟩ := hR.ob
      have hlen := tell_len (d0 p) (p.derived.take i) (p.sources.zip ws)
      have htk : (p.derived.take i).length ≤ 6 := by rw [List.length_take]; omega
      refine ⟨A'.ra, _, dx2, _, _, rfl, e2, T.l_TrueRun, T.n_TrueRun_given, fl_given .., _, rfl, _, rfl, kd, _, rfl, put_kv (hR.same _ _ hK) (small1000 (by omega)), _, _, rfl, own_same (hs.trans hR.same) hkd, ?_⟩
      rw [upd_same, take_more hq, tell_snoc]
  · rintro σ H2 ⟨v3, v4, rfl, hs, hK⟩
    rw [hxl, List.take_length] at hK
    exact ⟨_, rfl, q kd H2 hs hK⟩
end
end K80
namespace K80
open PySem PySem.Spec PyProof.Rows L2 Td
def envD (L : Td.Env) : PyData := .tuple (L.map wrD)
def ansK (vn vp vs vw : Addr) (vo : V) : List (Key × V) := [(.inr "notes", .ref vn), (.inr "peeks", .ref vp), (.inr "says", .ref vs), (.inr "writes", .ref vw), (.inr "word", vo)]
theorem ansK_merge (vn vp vs vw : Addr) (vo : V) : mergeK [] (ansK vn vp vs vw vo) = ansK vn vp vs vw vo := by kernel_rfl
def wordV (dv : Bool) (g : Str) : V := if dv then .str g else .non
structure AnsAt (K : PySem.W.Frag) (H : Hp) (a : Addr) (st : RS) (dv : Bool) : Prop where
  ex : ∃ vn vp vs vw : Addr, H a = some (.dK (ansK vn vp vs vw (wordV dv st.given))) ∧ Tn K H (.ref vn) (envD st.noted) ∧ Tn K H (.ref vp) (envD st.peeked) ∧ Tn K H (.ref vs) (strsD st.said) ∧ Tn K H (.ref vw) (envD st.written)
theorem AnsAt.same {K : PySem.W.Frag} {H H' : Hp} {a : Addr} {st : RS} {dv : Bool} (h : AnsAt K H a st dv) (s : Same H H') : AnsAt K H' a st dv := by
  obtain ⟨vn, vp, vs, vw, e, h1, h2, h3, h4⟩ := h.ex
  exact ⟨vn, vp, vs, vw, s _ _ e, Tn.same s h1, Tn.same s h2, Tn.same s h3, Tn.same s h4⟩
/-- how a body runs -/
def runOf (p : PP) (ws : List Str) (rs : List Td.Row) : RS := (runRs (knF (known0 p ws)) (d0 p) rs (rs0 (d0 p))).1
def isDer (p : PP) (z : Str) : Bool := decide (z ∈ p.derived.map (·.1))
def spTrue (K : PySem.W.Frag) (CP : Addr) : Sp := fun vs H Q _ => ∃ (pa wa : Addr) (z : Str) (p : PP) (m : Nat) (ws : List Str) (q : Str × List Td.Row), vs = [.ref pa, .ref wa, .str z] ∧ ProgAt K H CP pa p ∧ p.Ok m ∧ m ≤ 16 ∧ SqT K H wa (ws.map V.str) ∧ ws.length = p.sources.length ∧ (∀ z ∈ ws, z ∈ p.words) ∧
  q ∈ p.derived ++ p.effects ∧ q.1 = z ∧ ∀ (a : Addr) H', Same H H' → H a = none → AnsAt K H' a (runOf p ws q.2) (isDer p z) → Q (.ref a) H'
theorem pairs_tn {K : PySem.W.Frag} {H : Hp} {ts : List Addr} {L : Td.Env} (h : Paired (fun (t : Addr) (q : Key × V) => H t = some (.tup [kV q.1, q.2])) ts (kv L)) : TnAll K H (ts.map V.ref) (L.map wrD) := by
  induction L generalizing ts with
  | nil => cases h; exact .nil
  | cons p r ih =>
    unfold kv at h
    rw [List.map_cons] at h
    cases h with
    | cons a b => exact .cons (.tup (SqT.of a) (.cons (.str _) (.cons (.str _) .nil))) (ih b)
theorem body_scope {p : PP} {m : Nat} {ws : List Str} {q : Str × List Td.Row} (ok : p.Ok m) (hl : ws.length = p.sources.length) (hin : q ∈ p.derived ++ p.effects) :
    ∃ S : Sc, okRs S 1 q.2 ∧ (∀ c ∈ S.readable, (getE (known0 p ws) c).isSome = true) ∧ cnts q.2 ≤ m := by
  have has : ∀ c, c ∈ p.sources ∨ c ∈ p.derived.map (·.1) → (getE (known0 p ws) c).isSome = true := fun c h => by
    refine tell_has _ _ _ _ ?_
    rcases h with h | h
    · exact .inl (zip_has h hl.symm)
    · exact .inr h
  rcases List.mem_append.mp hin with h | h
  · obtain ⟨i, hi⟩ := List.getElem?_of_mem h
    obtain ⟨h1, h2⟩ := okDer_get ok.der hi
    refine ⟨_, h1, fun c hc => has c ?_, h2⟩
    rcases List.mem_append.mp hc with hc | hc
    · exact .inl hc
    · obtain ⟨r, hr, e⟩ := List.mem_map.mp hc
      exact .inr (List.mem_map.mpr ⟨r, List.mem_of_mem_take hr, e⟩)
  · obtain ⟨i, hi⟩ := List.getElem?_of_mem h
    obtain ⟨h1, h2⟩ := okEff_get ok.eff hi
    exact ⟨_, h1, fun c hc => has c (List.mem_append.mp hc), h2⟩
theorem free_of {H0 H : Hp} {a : Addr} (s : Same H0 H) (h : H a = none) : H0 a = none := by
  cases e : H0 a with
  | none => rfl
  | some o => rw [s _ _ e] at h; cases h
theorem der_eff {p : PP} {m : Nat} {q : Str × List Td.Row} (ok : p.Ok m) (hin : q ∈ p.derived ++ p.effects) : decide (q.1 ∈ p.effects.map (·.1)) = !isDer p q.1 := by
  have nd := ok.nn.nd
  unfold PP.names at nd
  rw [List.append_assoc] at nd
  have nd2 := nd.sublist (List.sublist_append_right _ _)
  have dj := (List.nodup_append.mp nd2).2.2
  unfold isDer
  rcases List.mem_append.mp hin with h | h
  · have h1 : q.1 ∈ p.derived.map (·.1) := List.mem_map.mpr ⟨q, h, rfl⟩
    rw [decide_eq_true h1, decide_eq_false fun h2 => dj _ h1 _ h2 rfl]
    rfl
  · have h1 : q.1 ∈ p.effects.map (·.1) := List.mem_map.mpr ⟨q, h, rfl⟩
    rw [decide_eq_true h1, decide_eq_false fun h2 => dj _ h2 _ h1 rfl]
    rfl
theorem few0 (d : Str) : (rs0 d).Few 0 := ⟨Nat.le_refl _, Nat.le_refl _, Nat.le_refl _, Nat.le_refl _, Nat.le_refl _⟩
section
variable {P : Program} {w : World} {K : PySem.W.Frag} {mg : Str → Option Value} {base : Heap}
def spRecParts (K : PySem.W.Frag) (C : Addr) : Sp := fun vs H Q _ => ∃ (A : RA) (dx : Addr) (st : RS) (dv : Bool), vs = [.ref A.ra] ∧ H A.ra = some (.ins C dx (A.fldsV (wordV dv st.given))) ∧
  H A.pn = some (.dK (kv st.noted)) ∧ H A.pp = some (.dK (kv st.peeked)) ∧ H A.pd = some (.lst (st.said.map V.str)) ∧ (∃ xs, H A.pw = some (.lst xs) ∧ TnAll K H xs (st.written.map wrD)) ∧
  ∀ (a : Addr) H', Same H H' → H a = none → AnsAt K H' a st dv → Q (.ref a) H'
theorem ok_parts_of (T : Tops w K mg) : FnOk P w K mg base CX0 1 T.a_Record_parts T.d_Record_parts ["self"] (spRecParts K T.c_TrueRun) := by
  refine T.F_Record_parts.ok sc_Record_parts (fun vs H Q E h => ?_) (fun cdv A outer s H vs Q E hr h => ?_)
  · obtain ⟨A', dx, st, dv, rfl, _⟩ := h
    rfl
  obtain ⟨A', dx2, st, dv, rfl, e2, hn, hp, hsd, ⟨xw, w1, w2⟩, q⟩ := h
  refine ⟨_, (pss_one (ps_ret (pe_disp (pps_cons pe_str (pe_tupleItems rfl (pe_fld (pv 0) rfl) rfl T.z_tuple) (pps_cons pe_str (pe_tupleItems rfl (pe_fld (pv 0) rfl) rfl T.z_tuple) (pps_cons pe_str (pe_callTy call_tuple_of rfl T.z_tuple (by decide +kernel) (pa_cons (pe_fld (pv 0) rfl) pa_nil)) (pps_cons pe_str (pe_callTy call_tuple_of rfl T.z_tuple (by decide +kernel) (pa_cons (pe_fld (pv 0) rfl) pa_nil)) (pps_cons pe_str (pe_fld (pv 0) rfl) pps_nil))))) (by rfl) (by rfl) (fun z => by cases z) (by decide)))), ?_⟩
  refine fun pd hpd => ?_
  have s5 : Same H (upd H pd (.dK [])) := Same.new hpd _
  have p5 : upd H pd (.dK []) pd = some (.dK []) := upd_same
  generalize upd H pd (.dK []) = H5 at s5 p5
  refine ⟨_, rfl, A'.ra, _, dx2, _, _, rfl, s5 _ _ e2, T.l_TrueRun, T.n_TrueRun_noted, fv_noted .., A'.pn, _, rfl, s5 _ _ hn, fun H6 vn ts6 s6 _ v6 q6 => ?_⟩
  have s46 := s5.trans s6
  have t6 : Tn K H6 (.ref vn) (envD st.noted) := .tup (SqT.of v6) (pairs_tn q6)
  refine ⟨_, rfl, A'.ra, _, dx2, _, _, rfl, s46 _ _ e2, T.l_TrueRun, T.n_TrueRun_peeked, fv_peeked .., A'.pp, _, rfl, s46 _ _ hp, fun H7 vp ts7 s7 _ v7 q7 => ?_⟩
  have s47 := s46.trans s7
  have t7 : Tn K H7 (.ref vp) (envD st.peeked) := .tup (SqT.of v7) (pairs_tn q7)
  refine ⟨_, rfl, A'.ra, _, dx2, _, _, rfl, s47 _ _ e2, T.l_TrueRun, T.n_TrueRun_said, fv_said .., A'.pd, _, rfl, .inl ⟨SqL.of (s47 _ _ hsd), fun vs hvs => ?_⟩⟩
  have s8 : Same H7 (upd H7 vs (.tup (st.said.map V.str))) := Same.new hvs _
  have t8 : Tn K (upd H7 vs (.tup (st.said.map V.str))) (.ref vs) (strsD st.said) := .tup (SqT.of upd_same) (TnAll.strs _)
  generalize upd H7 vs (.tup (st.said.map V.str)) = H8 at s8 t8
  have s48 := s47.trans s8
  refine ⟨_, rfl, A'.ra, _, dx2, _, _, rfl, s48 _ _ e2, T.l_TrueRun, T.n_TrueRun_written, fv_written .., A'.pw, _, rfl, .inl ⟨SqL.of (s48 _ _ w1), fun vw hvw => ?_⟩⟩
  have s9 : Same H8 (upd H8 vw (.tup xw)) := Same.new hvw _
  have t9 : Tn K (upd H8 vw (.tup xw)) (.ref vw) (envD st.written) := .tup (SqT.of upd_same) (TnAll.keep (TK.of_same (s48.trans s9)) w2)
  generalize upd H8 vw (.tup xw) = H9 at s9 t9
  have s49 := s48.trans s9
  refine ⟨_, rfl, A'.ra, _, dx2, _, _, rfl, s49 _ _ e2, T.l_TrueRun, T.n_TrueRun_given, fv_given .., ?_⟩
  have s59 := ((s6.trans s7).trans s8).trans s9
  have p9 : H9 pd = some (.dK []) := s59 _ _ p5
  refine ⟨p9, ansK vn vp vs vw (wordV dv st.given), rfl, by show 5 ≤ 15; decide, ?_⟩
  rw [ansK_merge]
  have s0 : Same H (upd H9 pd (.dK (ansK vn vp vs vw (wordV dv st.given)))) := own_same s49 hpd
  have tk : ∀ {X : Hp}, Same X H9 → TK X (upd H9 pd (.dK (ansK vn vp vs vw (wordV dv st.given)))) := fun sx => (TK.of_same sx).trans (TK.upd (by rw [p9]; trivial))
  exact q pd _ s0 hpd ⟨vn, vp, vs, vw, upd_same, Tn.keep (tk ((s7.trans s8).trans s9)) t6, Tn.keep (tk (s8.trans s9)) t7, Tn.keep (tk s9) t8, Tn.keep (tk (Same.refl _)) t9⟩
theorem ok_true (T : Tops w K mg)
    (G_check_start : FnOk P w K mg base CX0 2 T.a_check_start T.d_check_start ["program", "words"] (spStart K T.c_Program))
    (G_Program_body : FnOk P w K mg base CX0 1 T.a_Program_body T.d_Program_body ["self", "name"] (spBodyOf K T.c_Program))
    (G_Program_effect_names : FnOk P w K mg base CX0 2 T.a_Program_effect_names T.d_Program_effect_names ["self"] (spEffectNames K T.c_Program))
    (G_known_words : FnOk P w K mg base CX0 8 T.a_known_words T.d_known_words ["program", "words"] (spKnown K T.c_Program))
    (G_run_truly : FnOk P w K mg base CX0 7 T.a_run_truly T.d_run_truly ["program", "known", "rows"] (spTruly K T.c_Program T.c_TrueRun))
    (G_Record_parts : FnOk P w K mg base CX0 1 T.a_Record_parts T.d_Record_parts ["self"] (spRecParts K T.c_TrueRun)) :
    FnOk P w K mg base CX0 9 T.a_true_run T.d_true_run ["program", "words", "name"] (spTrue K T.c_Program) := by
  refine T.F_true_run.ok sc_true_run (fun vs H Q E h => ?_) (fun cdv A outer s H vs Q E hr h => ?_)
  · obtain ⟨pa, wa, z, p, m, ws, qq, rfl, _⟩ := h
    rfl
  obtain ⟨pa, wa, z, p, m, ws, qq, rfl, hP, ok, hm, hW, hl, hw, hin, rfl, q⟩ := h
  have s4 := ok.s4
  have d6 := ok.d6
  refine ⟨_, (pss_cons (ps_expr (pe_call G_check_start (hr.mono (by omega)) rfl T.m_check_start T.F_check_start.kp T.b_check_start .nil pass0 (pa_cons (pv 0) (pa_cons (pv 1) pa_nil))))
    (pss_cons (ps_set (i := 3) sc_true_run.nd rfl (Or.inl rfl) (pe_meth (pv 0) T.l_Program T.t_Program_body G_Program_body (hr.mono (by omega)) T.b_Program_body .nil pass0 (pa_cons (pv 2) pa_nil)))
    (pss_cons (ps_set (i := 4) sc_true_run.nd rfl (Or.inl rfl) (pe_call G_run_truly (hr.mono (by omega)) rfl T.m_run_truly T.F_run_truly.kp T.b_run_truly .nil pass0 (pa_cons (pv 0) (pa_cons (pe_call G_known_words (hr.mono (by omega)) rfl T.m_known_words T.F_known_words.kp T.b_known_words .nil pass0 (pa_cons (pv 0) (pa_cons (pv 1) pa_nil))) (pa_cons (pv 3) pa_nil)))))
    (pss_cons (ps_if (pt_cmpR op_in_seq (pv 2) (pe_meth0 (pv 0) T.l_Program T.t_Program_effect_names G_Program_effect_names (hr.mono (by omega)) T.b_Program_effect_names .nil pass0) (by rfl)) (pss_one (ps_fld (pv 4) pe_non rfl)) pss_nil)
    (pss_one (ps_ret (pe_meth0 (pv 4) T.l_TrueRun T.t_TrueRun_parts G_Record_parts (hr.mono (by omega)) T.b_Record_parts .nil pass0))))))), ?_⟩
  refine ⟨_, rfl, _, rfl, pa, wa, p, m, ws, rfl, hP, ok, hW, hl, hw, fun H1 s1 => ?_⟩
  have hP1 := hP.same s1
  obtain ⟨dx, aw, as, vd, ve, ⟨dn, en, e, hdn, hen⟩, g1, g2, g3, g4⟩ := hP1.ex
  refine ⟨_, rfl, pa, dx, _, rfl, e, by kernel_rfl, _, rfl, pa, qq.1, p, m, qq, rfl, hP1, ok, hin, rfl, fun v H2 s2 hv => ?_⟩
  have s12 := s1.trans s2
  refine ⟨_, rfl, _, rfl, _, rfl, pa, wa, p, m, ws, rfl, hP.same s12, ok, hm, SqT.same s12 hW, hl, fun kd H3 s3 hk => ?_⟩
  have s13 := s12.trans s3
  obtain ⟨S, k1, k2, k3⟩ := body_scope (ws := ws) ok hl hin
  refine ⟨_, rfl, pa, kd, v, p, m, qq.2, _, S, rfl, hP.same s13, ok, hk, Tn.dp (Tn.same s3 hv), k1, k2, by omega, fun A' H4 hkd hd hR => ?_⟩
  have s14 := s13.trans hR.same
  have eR : (runRs (knF (known0 p ws)) (d0 p) qq.2 (rs0 (d0 p))).1 = runOf p ws qq.2 := rfl
  rw [eR] at hR
  generalize runOf p ws qq.2 = st at hR q
  obtain ⟨dx2, e2⟩ := hR.ob
  have hP4 := hP.same s14
  obtain ⟨dx4, _, _, _, _, ⟨_, _, e4, _, _⟩, _⟩ := hP4.ex
  refine ⟨_, rfl, _, rfl, pa, dx4, _, rfl, e4, by kernel_rfl, pa, p, m, rfl, hP4, ok, fun tn H5 s5 htn => ?_⟩
  have htn' : SqT K H5 tn ((p.effects.map (·.1)).map V.str) := by rw [List.map_map]; exact htn
  have hR5 := hR.go s5
  have hra := hR.f0
  obtain ⟨xw, w1, w2⟩ := hR5.wr
  refine ⟨tn, _, rfl, .inr htn', rfl, L2.flat_strs _, _, rfl, ?_⟩
  have ein : inV (.str qq.1) ((p.effects.map (·.1)).map V.str) = !isDer p qq.1 := (inV_strs _ _).trans (der_eff ok hin)
  have e5 := s5 _ _ e2
  have s15 : Same H H5 := s14.trans s5
  have free : ∀ {X : Hp} {a : Addr}, Same H5 X ∨ Same H X → X a = none → H a = none := fun {X a} hs hn => by
    rcases hs with hs | hs
    · exact free_of s15 (free_of hs hn)
    · exact free_of hs hn
  cases hd : isDer p qq.1 with
  | true =>
    refine if_false_of (by rw [ein, hd]; rfl) ?_
    refine ⟨_, rfl, A'.ra, dx2, _, rfl, e5, fl_none2 A' _, A', dx2, st, true, rfl, e5, hR5.no, hR5.pe, hR5.sa, ⟨xw, w1, w2⟩, fun a H6 s6 ha hA => ?_⟩
    exact q a H6 (s15.trans s6) (free (.inl (Same.refl _)) ha) (by rw [hd]; exact hA)
  | false =>
    refine if_true_of (by rw [ein, hd]; rfl) ?_
    refine ⟨_, rfl, A'.ra, T.c_TrueRun, dx2, _, rfl, e5, T.l_TrueRun, T.n_TrueRun_given, Nat.lt_of_le_of_lt (m := 8) (Nat.le_of_eq (by kernel_rfl)) (by decide), ?_⟩
    rw [fl_giveV]
    have s6 : Same H3 (upd H5 A'.ra (.ins T.c_TrueRun dx2 (A'.fldsV .non))) := own_same hR5.same hra
    have ne : ∀ {b : Addr} {o : HO}, H5 b = some o → (∀ D dx fs, o ≠ .ins D dx fs) → b ≠ A'.ra := fun {b o} h1 h2 z => by
      rw [z, e5] at h1
      exact h2 _ _ _ (Option.some.inj h1).symm
    refine ⟨_, rfl, A'.ra, dx2, _, rfl, upd_same, fl_none2 A' _, A', dx2, st, false, rfl, upd_same, ?_, ?_, ?_, ⟨xw, ?_, TnAll.keep (TK.upd (by rw [e5]; trivial)) w2⟩, fun a H7 s7 ha hA => ?_⟩
    · rw [upd_ne (ne hR5.no (by intro D dx fs z; cases z))]; exact hR5.no
    · rw [upd_ne (ne hR5.pe (by intro D dx fs z; cases z))]; exact hR5.pe
    · rw [upd_ne (ne hR5.sa (by intro D dx fs z; cases z))]; exact hR5.sa
    · rw [upd_ne (ne w1 (by intro D dx fs z; cases z))]; exact w1
    · exact q a H7 ((s13.trans s6).trans s7) (free (.inr (s13.trans s6)) ha) (by rw [hd]; exact hA)
end
end K80
namespace K80
open PySem PySem.Spec PyProof.Rows L2 Td
theorem stGo {H H' : Hp} {st sc : Addr} (h : StOk H st sc) (s : Same H H') : StOk H' st sc := by
  obtain ⟨cs, i, d, c, z, h1, h2, r⟩ := h
  exact ⟨cs, i, d, c, z, s _ _ h1, s _ _ h2, r⟩
theorem free_of' {H0 H : Hp} {a : Addr} (s : Same H0 H) (h : H a = none) : H0 a = none := by
  cases e : H0 a with
  | none => rfl
  | some o => rw [s _ _ e] at h; cases h
def ab26 : Str := "abcdefghijklmnopqrstuvwxyz"
def letA (k : Nat) : Str := ⟨#[97 + k]⟩
theorem ab_at : ∀ k, k < 26 → ab26.cps.toList[k]? = some (97 + k) := by decide +kernel
theorem letA_nm : ∀ k, k < 26 → isNm (letA k) = true := by decide +kernel
theorem sl_all {K : PySem.W.Frag} {H : Hp} {a : Addr} {xs : List V} {lo hi : Option Int} {Q : VK} (hA : SqT K H a xs) (k : ∀ (p : Addr) H', Same H H' → SqT K H' p (cutV xs lo hi) → Q (.ref p) H') : rSlA K (.ref a) lo hi H Q := by
  refine ⟨a, xs, rfl, hA, fun h => k a H (Same.refl _) ?_, fun _ p hp => k p _ (Same.new hp _) (SqT.of upd_same)⟩
  unfold cutV
  rw [h.1, h.2, List.drop_zero, Nat.sub_zero, List.take_length]
  exact hA
theorem nodup_len {α : Type} : ∀ (l m : List α), l.Nodup → (∀ x ∈ l, x ∈ m) → l.length ≤ m.length
  | [], m, _, _ => Nat.zero_le _
  | x :: l, m, nd, h => by
    obtain ⟨a, b, rfl⟩ := List.append_of_mem (h x List.mem_cons_self)
    rw [List.nodup_cons] at nd
    have := nodup_len l (a ++ b) nd.2 (fun y hy => by
      have hy2 := h y (List.mem_cons_of_mem _ hy)
      rcases List.mem_append.mp hy2 with g | g
      · exact List.mem_append_left _ g
      · rcases List.mem_cons.mp g with g | g
        · subst g; exact absurd hy nd.1
        · exact List.mem_append_right _ g)
    rw [List.length_append] at this ⊢
    rw [List.length_cons, List.length_cons]
    omega
theorem cut_fromN (xs : List V) (k : Nat) : cutV xs (some (k : Int)) none = xs.drop k := by
  unfold cutV
  rw [HT.sIx_none, HT.sIx_nat]
  by_cases h : k ≤ xs.length
  · rw [Nat.min_eq_left h, List.take_of_length_le (by rw [List.length_drop]; exact Nat.le_refl _)]
  · rw [Nat.min_eq_right (by omega), List.drop_eq_nil_of_le (Nat.le_refl _), List.drop_eq_nil_of_le (by omega), List.take_nil]
def freshG (ns : List Str) (i : Nat) : List Str := ((List.range i).filter fun k => decide (letA k ∉ ns)).map letA
theorem freshG_more (ns : List Str) (i : Nat) : freshG ns (i + 1) = if letA i ∈ ns then freshG ns i else freshG ns i ++ [letA i] := by
  unfold freshG
  rw [List.range_succ, List.filter_append, List.map_append]
  by_cases hz : letA i ∈ ns <;> simp [hz]
theorem freshG_len (ns : List Str) (i : Nat) : (freshG ns i).length ≤ i := by
  unfold freshG
  have := List.length_filter_le (fun k => decide (letA k ∉ ns)) (List.range i)
  rw [List.length_range] at this
  rw [List.length_map]; exact this
theorem pair_get {K : PySem.W.Frag} {G : Hp} {xs : List V} {ps : List (Str × List Td.Row)} (h : TnAll K G xs (ps.map Td.pairD)) {i : Nat} {x : V} (e : xs[i]? = some x) :
    ∃ r b vr, ps[i]? = some r ∧ x = .ref b ∧ SqT K G b [.str r.1, vr] ∧ Tn K G vr (.tuple (rowsD r.2)) := by
  obtain ⟨d, hd, hxd⟩ := TnAll.get h e
  rw [List.getElem?_map] at hd
  obtain ⟨r, hr2, rfl⟩ := Option.map_eq_some_iff.mp hd
  obtain ⟨b, es, rfl, hB, hEs⟩ := Tn.tup_inv hxd
  obtain ⟨vr, rfl, hvr⟩ : ∃ vr, es = [.str r.1, vr] ∧ Tn K G vr (.tuple (rowsD r.2)) := by
    cases hEs with
    | cons a1 a2 =>
      cases a1
      cases a2 with
      | cons a3 a4 => cases a4; exact ⟨_, rfl, a3⟩
  exact ⟨r, b, vr, hr2, rfl, hB, hvr⟩
theorem zip_fstB {α : Type} {xs : List V} {L : List α} (h : xs.length = L.length) : xs = (xs.zip L).map Prod.fst := (List.map_fst_zip (by omega)).symm
theorem zip_atB {α : Type} {xs : List V} {L : List α} {i : Nat} {x : V × α} (h : (xs.zip L)[i]? = some x) : xs[i]? = some x.1 ∧ L[i]? = some x.2 := List.getElem?_zip_eq_some.mp h
/-! ### changes of a program -/
def kdW (e : Bool) : Str := if e then "effects" else "derived"
/-- the path of a row: its kind, its body, its steps -/
structure Way where
  e : Bool
  i : Nat
  st : List Int
deriving DecidableEq
def Way.ds (a : Way) : List PyData := .str (kdW a.e) :: .int (a.i : Nat) :: a.st.map PyData.int
def Way.vs (a : Way) : List V := .str (kdW a.e) :: .int (a.i : Nat) :: a.st.map V.int
def Way.data (a : Way) : PyData := .tuple a.ds
def bodiesOf (p : PP) (e : Bool) : List (Str × List Td.Row) := if e then p.effects else p.derived
/-- a change: a peek or a read put ahead, and the path of the read -/
def chgD (c : Bool × Way) : PyData := .tuple [.str (if c.1 then "peek" else "early"), c.2.data]
/-- the changes of one body -/
def ownC (L : List (Bool × Way)) (e : Bool) (i : Nat) : List (Bool × List Int) := (L.filter fun c => decide (c.2.e = e) && decide (c.2.i = i)).map fun c => (c.1, c.2.st)
def freeOf (rs : List Td.Row) : Str := (freshG (slotsRs rs) 26).headD ""
def cellOf (o : Option Td.Row) : Str := match o with
  | some (.rd _ c _) => c
  | _ => ""
def slotOf (o : Option Td.Row) : Str := match o with
  | some (.rd _ _ s) => s
  | _ => ""
def earlyCs (rs : List Td.Row) (own : List (Bool × List Int)) : List Str := (own.filter fun c => !c.1).map fun c => cellOf (rowAt rs c.2)
def behindF (rs : List Td.Row) (b : List Td.Row) (c : Bool × List Int) : List Td.Row := if c.1 then setAt b c.2 (.rd true (cellOf (rowAt rs c.2)) (slotOf (rowAt rs c.2))) else b
def behindRs (rs : List Td.Row) (own : List (Bool × List Int)) : List Td.Row := own.foldl (behindF rs) rs
def chRows (rs : List Td.Row) (own : List (Bool × List Int)) : List Td.Row := earlyRs (freeOf rs) (earlyCs rs own) ++ behindRs rs own
def chBodies (L : List (Bool × Way)) (e : Bool) (ps : List (Str × List Td.Row)) : List (Str × List Td.Row) := ps.mapIdx fun i q => (q.1, chRows q.2 (ownC L e i))
def Chd (p : PP) (L : List (Bool × Way)) : PP := ⟨p.words, p.sources, chBodies L false p.derived, chBodies L true p.effects⟩
/-- the changes stand at reads -/
def OwnOk (rs : List Td.Row) (own : List (Bool × List Int)) : Prop := ∀ c ∈ own, ∃ x s, rowAt rs c.2 = some (.rd false x s)
structure ChOk (p : PP) (L : List (Bool × Way)) : Prop where
  at_ : ∀ c ∈ L, ∃ q x s, (bodiesOf p c.2.e)[c.2.i]? = some q ∧ rowAt q.2 c.2.st = some (.rd false x s)
  eff : ∀ c ∈ L, c.1 = true → c.2.e = true
theorem ChOk.own {p : PP} {L : List (Bool × Way)} (h : ChOk p L) {e : Bool} {i : Nat} {q : Str × List Td.Row} (hq : (bodiesOf p e)[i]? = some q) : OwnOk q.2 (ownC L e i) := fun c hc => by
  unfold ownC at hc
  obtain ⟨d, hd, rfl⟩ := List.mem_map.mp hc
  obtain ⟨h1, h2⟩ := List.mem_filter.mp hd
  rw [Bool.and_eq_true, decide_eq_true_eq, decide_eq_true_eq] at h2
  obtain ⟨r, x, s, g1, g2⟩ := h.at_ d h1
  rw [h2.1, h2.2, hq] at g1
  cases g1
  exact ⟨x, s, g2⟩
theorem free_some {ns : List Str} (h : ns.length ≤ 24) : ∃ k, k < 26 ∧ letA k ∉ ns ∧ (freshG ns 26).headD "" = letA k ∧ ∃ r, freshG ns 26 = letA k :: r := by
  cases e : (List.range 26).filter fun k => decide (letA k ∉ ns) with
  | nil =>
    exfalso
    have h2 := nodup_len ((List.range 25).map letA) ns (by decide +kernel) fun x hx => by
      obtain ⟨k, hk, rfl⟩ := List.mem_map.mp hx
      have k5 := List.mem_range.mp hk
      have g := List.filter_eq_nil_iff.mp e k (List.mem_range.mpr (by omega))
      simpa using g
    have : ((List.range 25).map letA).length = 25 := by rw [List.length_map, List.length_range]
    omega
  | cons k r =>
    have hk : k ∈ (List.range 26).filter fun k => decide (letA k ∉ ns) := by rw [e]; exact List.mem_cons_self
    obtain ⟨h1, h2⟩ := List.mem_filter.mp hk
    have ef : freshG ns 26 = letA k :: r.map letA := by unfold freshG; rw [e]; rfl
    exact ⟨k, List.mem_range.mp h1, of_decide_eq_true h2, by rw [ef]; rfl, _, ef⟩
theorem free_at {rs : List Td.Row} (h : cnts rs ≤ 24) : freeOf rs ∉ slotsRs rs ∧ isNm (freeOf rs) = true := by
  obtain ⟨k, h1, h2, h3, _⟩ := free_some (ns := slotsRs rs) (by rw [slotsRs_len]; exact h)
  unfold freeOf
  rw [h3]
  exact ⟨h2, letA_nm k h1⟩
theorem behind_pk {rs : List Td.Row} : ∀ (own : List (Bool × List Int)) (b : List Td.Row), OwnOk rs own → pkRs rs b → pkRs rs (own.foldl (behindF rs) b)
  | [], b, _, h => h
  | c :: own, b, ho, h => by
    rw [List.foldl_cons]
    refine behind_pk own _ (fun d hd => ho d (List.mem_cons_of_mem _ hd)) ?_
    unfold behindF
    split
    · obtain ⟨x, s, e⟩ := ho c List.mem_cons_self
      rw [e]
      exact pkRs_peek c.2 h e
    · exact h
mutual
theorem pk_cnt : ∀ {r t : Td.Row}, pkR r t → Td.cnt t = Td.cnt r
  | .rd .., t, h => by unfold pkR at h; obtain ⟨_, rfl⟩ := h; simp [Td.cnt]
  | .ite s u y n, t, h => by unfold pkR at h; obtain ⟨y', n', rfl, h1, h2⟩ := h; simp only [Td.cnt, pk_cnts h1, pk_cnts h2]
  | .put .., t, h => by unfold pkR at h; rw [h]
  | .give .., t, h => by unfold pkR at h; rw [h]
  | .say .., t, h => by unfold pkR at h; rw [h]
  | .wr .., t, h => by unfold pkR at h; rw [h]
theorem pk_cnts : ∀ {rs ts : List Td.Row}, pkRs rs ts → cnts ts = cnts rs
  | [], ts, h => by unfold pkRs at h; rw [h]
  | r :: rs, ts, h => by unfold pkRs at h; obtain ⟨r', rs', rfl, h1, h2⟩ := h; simp only [cnts, pk_cnt h1, pk_cnts h2]
end
/-- right rows stay right, in an effect -/
def noPk : Td.Row → Bool
  | .rd pk _ _ => !pk
  | _ => true
mutual
theorem pk_okE {S : Sc} (hS : S.eff = true) : ∀ {r t : Td.Row} {dep : Nat}, pkR r t → okR S dep r → okR S dep t
  | .rd pk c s, t, dep, h, ok => by
    unfold pkR at h; obtain ⟨pk', rfl⟩ := h
    unfold okR at ok ⊢
    exact ⟨fun _ => hS, ok.2⟩
  | .ite s u y n, t, dep, h, ok => by
    unfold pkR at h; obtain ⟨y', n', rfl, h1, h2⟩ := h
    unfold okR at ok ⊢
    exact ⟨ok.1, ok.2.1, ok.2.2.1, pk_okEs hS h1 ok.2.2.2.1, pk_okEs hS h2 ok.2.2.2.2⟩
  | .put .., t, dep, h, ok => by unfold pkR at h; rw [h]; exact ok
  | .give .., t, dep, h, ok => by unfold pkR at h; rw [h]; exact ok
  | .say .., t, dep, h, ok => by unfold pkR at h; rw [h]; exact ok
  | .wr .., t, dep, h, ok => by unfold pkR at h; rw [h]; exact ok
theorem pk_okEs {S : Sc} (hS : S.eff = true) : ∀ {rs ts : List Td.Row} {dep : Nat}, pkRs rs ts → okRs S dep rs → okRs S dep ts
  | [], ts, dep, h, ok => by unfold pkRs at h; rw [h]; exact ok
  | r :: rs, ts, dep, h, ok => by
    unfold pkRs at h; obtain ⟨r', rs', rfl, h1, h2⟩ := h
    unfold okRs at ok ⊢
    exact ⟨pk_okE hS h1 ok.1, pk_okEs hS h2 ok.2⟩
end
mutual
theorem rowAt_ok {S : Sc} : ∀ (st : List Int) {rs : List Td.Row} {r : Td.Row} {dep : Nat}, okRs S dep rs → rowAt rs st = some r → ∃ dep', okR S dep' r
  | [], rs, r, dep, _, e => by unfold rowAt at e; cases e
  | [i], rs, r, dep, ok, e => by obtain ⟨k, _, e⟩ := rowAt_one e; exact ⟨dep, okRs_get ok e⟩
  | i :: j :: st, rs, r, dep, ok, e => by
    obtain ⟨k, s, u, y, n, _, e1, e2⟩ := rowAt_two e
    have o := okRs_get ok e1
    unfold okR at o
    rcases e2 with ⟨_, e2⟩ | ⟨_, e2⟩
    · exact rowAt_ok st o.2.2.2.1 e2
    · exact rowAt_ok st o.2.2.2.2 e2
end
theorem early_ok {S : Sc} {F : Str} (hF : isNm F = true) : ∀ {cs : List Str} {dep : Nat}, (∀ c ∈ cs, c ∈ S.readable) → okRs S dep (earlyRs F cs)
  | [], dep, _ => by show okRs S dep []; unfold okRs; trivial
  | c :: cs, dep, h => by
    show okRs S dep (.rd false c F :: earlyRs F cs)
    unfold okRs
    refine ⟨?_, early_ok hF fun x hx => h x (List.mem_cons_of_mem _ hx)⟩
    unfold okR
    exact ⟨(fun z => nomatch z), h c List.mem_cons_self, hF⟩
theorem early_cnt (F : Str) : ∀ cs : List Str, cnts (earlyRs F cs) = cs.length
  | [] => by show cnts [] = 0; unfold cnts; rfl
  | c :: cs => by
    show cnts (.rd false c F :: earlyRs F cs) = _
    simp only [cnts, Td.cnt, early_cnt F cs, List.length_cons]
    omega
theorem own_behind {rs : List Td.Row} : ∀ {own : List (Bool × List Int)} {b : List Td.Row}, (∀ c ∈ own, c.1 = false) → own.foldl (behindF rs) b = b
  | [], b, _ => rfl
  | c :: own, b, h => by
    rw [List.foldl_cons]
    have : behindF rs b c = b := by unfold behindF; rw [h c List.mem_cons_self, if_neg Bool.false_ne_true]
    rw [this]
    exact own_behind fun x hx => h x (List.mem_cons_of_mem _ hx)
/-- the changed rows are right -/
theorem chRows_ok {S : Sc} {rs : List Td.Row} {own : List (Bool × List Int)} (ho : OwnOk rs own) (ok : okRs S 1 rs) (hc : cnts rs ≤ 24) (he : S.eff = true ∨ ∀ c ∈ own, c.1 = false) : okRs S 1 (chRows rs own) ∧ cnts (chRows rs own) ≤ cnts rs + own.length := by
  obtain ⟨f1, f2⟩ := free_at hc
  have hp := behind_pk own rs ho (pkRs_refl rs)
  unfold chRows
  refine ⟨okRs_append (early_ok f2 fun c hc => ?_) ?_, ?_⟩
  · unfold earlyCs at hc
    obtain ⟨d, hd, rfl⟩ := List.mem_map.mp hc
    obtain ⟨x, s, e⟩ := ho d (List.mem_filter.mp hd).1
    obtain ⟨dep, o⟩ := rowAt_ok d.2 ok e
    rw [e]
    unfold okR at o
    exact o.2.1
  · rcases he with he | he
    · exact pk_okEs he hp ok
    · unfold behindRs
      rw [own_behind he]
      exact ok
  · rw [cnts_append, early_cnt]
    have h1 : (earlyCs rs own).length ≤ own.length := by unfold earlyCs; rw [List.length_map]; exact List.length_filter_le ..
    have h2 : cnts (behindRs rs own) = cnts rs := pk_cnts hp
    omega
theorem ownC_len (L : List (Bool × Way)) (e : Bool) (i : Nat) : (ownC L e i).length ≤ L.length := by unfold ownC; rw [List.length_map]; exact List.length_filter_le ..
theorem okDer_of {words sources : List Str} {most : Nat} : ∀ {ps : List (Str × List Td.Row)} {rd : List Str}, (∀ (i : Nat) (q : Str × List Td.Row), ps[i]? = some q → okRs ⟨false, words, sources, rd ++ (ps.take i).map (·.1)⟩ 1 q.2 ∧ Lim false most q.2) → okDer words sources most rd ps
  | [], rd, _ => by unfold okDer; trivial
  | q :: ps, rd, h => by
    unfold okDer
    have h0 := h 0 q rfl
    refine ⟨by simpa using h0.1, h0.2, okDer_of fun i r hr => ?_⟩
    have := h (i + 1) r (by simpa using hr)
    rw [List.take_succ_cons, List.map_cons] at this
    rw [List.append_assoc]
    exact this
theorem okEff_of {words sources rd : List Str} {most : Nat} : ∀ {ps : List (Str × List Td.Row)}, (∀ (i : Nat) (q : Str × List Td.Row), ps[i]? = some q → okRs ⟨true, words, sources, rd⟩ 1 q.2 ∧ Lim true most q.2) → okEff words sources rd most ps
  | [], _ => by unfold okEff; trivial
  | q :: ps, h => by
    unfold okEff
    exact ⟨(h 0 q rfl).1, (h 0 q rfl).2, okEff_of fun i r hr => h (i + 1) r (by simpa using hr)⟩
theorem lim_of {e : Bool} {rs : List Td.Row} (h : cnts rs ≤ 15) : Lim e 16 rs := ⟨by omega, rs, [], by simp, by omega, .inl rfl⟩
theorem chB_get {L : List (Bool × Way)} {e : Bool} {ps : List (Str × List Td.Row)} {i : Nat} {q : Str × List Td.Row} (h : (chBodies L e ps)[i]? = some q) : ∃ r, ps[i]? = some r ∧ q = (r.1, chRows r.2 (ownC L e i)) := by
  unfold chBodies at h
  rw [List.getElem?_mapIdx] at h
  obtain ⟨r, h1, h2⟩ := Option.map_eq_some_iff.mp h
  exact ⟨r, h1, h2.symm⟩
theorem chB_names (L : List (Bool × Way)) (e : Bool) (ps : List (Str × List Td.Row)) : (chBodies L e ps).map (·.1) = ps.map (·.1) := by
  refine List.ext_getElem? fun i => ?_
  unfold chBodies
  rw [List.getElem?_map, List.getElem?_map, List.getElem?_mapIdx, Option.map_map]
  rfl
section
variable {p : PP} {m : Nat} {L : List (Bool × Way)}
theorem chd_ok (ok : p.Ok m) (h : ChOk p L) (hm : m + L.length ≤ 15) : (Chd p L).Ok 16 := by
  have nd : (Chd p L).names = p.names := by unfold PP.names Chd; rw [chB_names, chB_names]
  refine ⟨ok.w2, ok.w4, ok.s1, ok.s4, ?_, ?_, ok.wn, by rw [nd]; exact ok.nn, okDer_of fun i q hq => ?_, okEff_of fun i q hq => ?_⟩
  · have := ok.d6; unfold Chd chBodies; rw [List.length_mapIdx]; exact this
  · have := ok.e4; unfold Chd chBodies; rw [List.length_mapIdx]; exact this
  · obtain ⟨r, hr, rfl⟩ := chB_get hq
    obtain ⟨o1, o2⟩ := okDer_get ok.der hr
    have own := h.own (e := false) (i := i) (q := r) hr
    have ol := ownC_len L false i
    have c := chRows_ok own o1 (by omega) (.inr fun c hc => by
      unfold ownC at hc
      obtain ⟨d, hd, rfl⟩ := List.mem_map.mp hc
      obtain ⟨h1, h2⟩ := List.mem_filter.mp hd
      rw [Bool.and_eq_true, decide_eq_true_eq] at h2
      cases e : d.1 with
      | false => rfl
      | true =>
        have := h.eff d h1 e
        rw [h2.1] at this
        cases this)
    refine ⟨?_, lim_of (by have := c.2; show cnts (chRows r.2 _) ≤ 15; omega)⟩
    have e : ((Chd p L).derived.take i).map (·.1) = (p.derived.take i).map (·.1) := by
      show ((chBodies L false p.derived).take i).map (·.1) = _
      rw [List.map_take, List.map_take, chB_names]
    rw [e]
    exact c.1
  · obtain ⟨r, hr, rfl⟩ := chB_get hq
    obtain ⟨o1, o2⟩ := okEff_get ok.eff hr
    have own := h.own (e := true) (i := i) (q := r) hr
    have ol := ownC_len L true i
    have c := chRows_ok own o1 (by omega) (.inl rfl)
    refine ⟨?_, lim_of (by have := c.2; show cnts (chRows r.2 _) ≤ 15; omega)⟩
    have e : (Chd p L).cells = p.cells := by unfold PP.cells Chd; rw [chB_names]
    rw [e]
    exact c.1
/-! ### what is told stays -/
theorem body_sim (h : ChOk p L) {e : Bool} {i : Nat} {r : Str × List Td.Row} (hr : (bodiesOf p e)[i]? = some r) (hc : cnts r.2 ≤ 24) (kn : Str → Str) (d : Str) : Sim (freeOf r.2) ((earlyCs r.2 (ownC L e i)).foldl addC []) (runRs kn d r.2 (rs0 d)).1 (runRs kn d (chRows r.2 (ownC L e i)) (rs0 d)).1 :=
  (sim_all kn d (behind_pk _ _ (h.own hr) (pkRs_refl _)) (free_at hc).1 rfl rfl).2
theorem tell_ch (d : Str) : ∀ (ps qs : List (Str × List Td.Row)) (kn : Td.Env), ps.length = qs.length → (∀ (i : Nat) (q r : Str × List Td.Row), ps[i]? = some q → qs[i]? = some r → q.1 = r.1 ∧ ∀ f : Str → Str, (runRs f d q.2 (rs0 d)).1.given = (runRs f d r.2 (rs0 d)).1.given) → tell d kn ps = tell d kn qs
  | [], [], kn, _, _ => rfl
  | [], _ :: _, kn, h, _ => by cases h
  | _ :: _, [], kn, h, _ => by cases h
  | q :: ps, r :: qs, kn, h, hh => by
    obtain ⟨e1, e2⟩ := hh 0 q r rfl rfl
    show tell d (putE kn q.1 _) ps = tell d (putE kn r.1 _) qs
    rw [e1, e2]
    exact tell_ch d ps qs _ (by simpa using h) fun i a b ha hb => hh (i + 1) a b (by simpa using ha) (by simpa using hb)
theorem ch_known (ok : p.Ok m) (hm : m ≤ 16) (h : ChOk p L) (ws : List Str) : known0 (Chd p L) ws = known0 p ws := by
  unfold known0
  refine tell_ch (d0 p) _ _ _ (by unfold Chd chBodies; rw [List.length_mapIdx]) fun i q r hq hr => ?_
  obtain ⟨r', hr', rfl⟩ := chB_get hq
  rw [hr] at hr'
  obtain rfl := Option.some.inj hr'
  have hc := (okDer_get ok.der hr).2
  exact ⟨rfl, fun f => (body_sim h (e := false) hr (by omega) f (d0 p)).gi⟩
theorem bodies_at {q : Str × List Td.Row} (hin : q ∈ p.derived ++ p.effects) : ∃ (e : Bool) (i : Nat), (bodiesOf p e)[i]? = some q := by
  rcases List.mem_append.mp hin with g | g
  · obtain ⟨i, hi⟩ := List.getElem?_of_mem g; exact ⟨false, i, hi⟩
  · obtain ⟨i, hi⟩ := List.getElem?_of_mem g; exact ⟨true, i, hi⟩
theorem bodies_cnt (ok : p.Ok m) {e : Bool} {i : Nat} {q : Str × List Td.Row} (hq : (bodiesOf p e)[i]? = some q) : cnts q.2 ≤ m := by
  cases e with
  | false => exact (okDer_get ok.der hq).2
  | true => exact (okEff_get ok.eff hq).2
/-- a body and the same body changed -/
def chQ (L : List (Bool × Way)) (e : Bool) (i : Nat) (q : Str × List Td.Row) : Str × List Td.Row := (q.1, chRows q.2 (ownC L e i))
theorem chQ_mem {e : Bool} {i : Nat} {q : Str × List Td.Row} (hq : (bodiesOf p e)[i]? = some q) : (bodiesOf (Chd p L) e)[i]? = some (chQ L e i q) := by
  cases e with
  | false => show (chBodies L false p.derived)[i]? = _; unfold chBodies; rw [List.getElem?_mapIdx, show p.derived[i]? = some q from hq]; rfl
  | true => show (chBodies L true p.effects)[i]? = _; unfold chBodies; rw [List.getElem?_mapIdx, show p.effects[i]? = some q from hq]; rfl
theorem bodies_in {e : Bool} {i : Nat} {q : Str × List Td.Row} (hq : (bodiesOf p e)[i]? = some q) : q ∈ p.derived ++ p.effects := by
  cases e with
  | false => exact List.mem_append_left _ (List.mem_of_getElem? hq)
  | true => exact List.mem_append_right _ (List.mem_of_getElem? hq)
theorem ch_sim (ok : p.Ok m) (hm : m ≤ 16) (h : ChOk p L) {e : Bool} {i : Nat} {q : Str × List Td.Row} (hq : (bodiesOf p e)[i]? = some q) (ws : List Str) : Sim (freeOf q.2) ((earlyCs q.2 (ownC L e i)).foldl addC []) (runOf p ws q.2) (runOf (Chd p L) ws (chQ L e i q).2) := by
  unfold runOf
  rw [ch_known ok hm h ws]
  have := bodies_cnt ok hq
  exact body_sim h hq (by omega) _ (d0 p)
end
end K80
namespace K80
open PySem PySem.Spec PyProof.Rows L2 Td
/-- the row at a path -/
def Way.row (a : Way) (p : PP) : Option Td.Row := ((bodiesOf p a.e)[a.i]?).bind fun q => rowAt q.2 a.st
theorem ints_tn {K : PySem.W.Frag} {H : Hp} : ∀ st : List Int, TnAll K H (st.map V.int) (st.map PyData.int)
  | [] => .nil
  | i :: st => .cons (.int i) (ints_tn st)
theorem Way.tn {K : PySem.W.Frag} {H : Hp} {b : Addr} {a : Way} (h : SqT K H b a.vs) : Tn K H (.ref b) a.data := .tup h (.cons (.str _) (.cons (.int _) (ints_tn _)))
theorem ints_inv {K : PySem.W.Frag} {H : Hp} : ∀ {st : List Int} {xs : List V}, TnAll K H xs (st.map PyData.int) → xs = st.map V.int
  | [], xs, h => by cases h; rfl
  | i :: st, xs, h => by
    cases h with
    | cons a b => cases a; rw [ints_inv b]; rfl
theorem Way.inv {K : PySem.W.Frag} {H : Hp} {v : V} {a : Way} (h : Tn K H v a.data) : ∃ b, v = .ref b ∧ SqT K H b a.vs := by
  obtain ⟨b, xs, rfl, hB, hX⟩ := Tn.tup_inv h
  cases hX with
  | cons a1 a2 =>
    cases a1
    cases a2 with
    | cons a3 a4 =>
      cases a3
      have := ints_inv a4
      subst this
      exact ⟨b, rfl, hB⟩
theorem rowAt_ne {rs : List Td.Row} {st : List Int} {r : Td.Row} (h : rowAt rs st = some r) : st ≠ [] := by
  rintro rfl
  unfold rowAt at h
  cases h
theorem ite_tn {K : PySem.W.Frag} {H : Hp} {v : V} {s c : Str} {y n : List Td.Row} (h : Tn K H v (rowD (.ite s c y n))) : ∃ a vy vn, v = .ref a ∧ SqT K H a [.str "if", .str s, .str c, vy, vn] ∧ Tn K H vy (.tuple (rowsD y)) ∧ Tn K H vn (.tuple (rowsD n)) := by
  unfold rowD at h
  obtain ⟨a, xs, rfl, hS, hT⟩ := Tn.tup_inv h
  cases hT with | cons h1 r => cases h1; cases r with | cons h2 r => cases h2; cases r with | cons h3 r => cases h3; cases r with | cons h4 r => cases r with | cons h5 r => cases r; exact ⟨a, _, _, rfl, hS, h4, h5⟩
theorem rd_tn {K : PySem.W.Frag} {H : Hp} {v : V} {pk : Bool} {c s : Str} (h : Tn K H v (rowD (.rd pk c s))) : ∃ a, v = .ref a ∧ SqT K H a [.str (if pk then "peek" else "read"), .str c, .str s] := by
  unfold rowD at h
  obtain ⟨a, xs, rfl, hS, hT⟩ := Tn.tup_inv h
  cases hT with | cons h1 r => cases h1; cases r with | cons h2 r => cases h2; cases r with | cons h3 r => cases h3; cases r; exact ⟨a, rfl, hS⟩
def spIsInt : Sp := fun vs H Q _ => ∃ i : Int, vs = [.int i] ∧ Q (.bl true) H
def spFormG (K : PySem.W.Frag) : Sp := fun vs H Q _ => ∃ (b : Addr) (a : Way), vs = [.ref b] ∧ SqT K H b a.vs ∧ a.st ≠ [] ∧ a.st.length ≤ 100 ∧ ∀ H', Same H H' → Q (.bl true) H'
def spBehindR (K : PySem.W.Frag) (n : Nat) : Sp := fun vs H Q _ => ∃ (v : V) (b : Addr) (rs : List Td.Row) (st : List Int) (S : Sc) (dep : Nat), vs = [v, .ref b] ∧ Tn K H v (.tuple (rowsD rs)) ∧ SqT K H b (st.map V.int) ∧ okRs S dep rs ∧ rs.length ≤ 100 ∧ cnts rs ≤ 100 ∧ dep ≤ 4 ∧ 5 ≤ dep + n ∧
  (∀ H', Same H H' → rowAt rs st = none → Q .non H') ∧ ∀ (x : V) (r : Td.Row) H', Same H H' → rowAt rs st = some r → Tn K H' x (rowD r) → Q x H'
theorem len_cnts : ∀ rs : List Td.Row, rs.length ≤ cnts rs
  | [] => Nat.zero_le _
  | r :: rs => by
    have h1 := len_cnts rs
    have h2 := cnt_pos r
    rw [List.length_cons]
    simp only [cnts]
    omega
section
variable {P : Program} {w : World} {K : PySem.W.Frag} {mg : Str → Option Value} {base : Heap}
theorem ok_is_integer (T : Tops w K mg) : FnOk P w K mg base CX0 1 T.a_is_integer T.d_is_integer ["value"] spIsInt := by
  refine T.F_is_integer.ok sc_is_integer (fun vs H Q E h => ?_) (fun cdv A outer s H vs Q E hr h => ?_)
  · obtain ⟨i, rfl, _⟩ := h
    rfl
  obtain ⟨i, rfl, q⟩ := h
  refine ⟨_, (pss_one (ps_ret (pe_and (pe_callB call_isi rfl T.z_isinstance (by decide +kernel) (pa_cons (pv 0) (pa_cons (pe_bltn (v := .ty "int") rfl T.z_int (by decide +kernel) rfl) pa_nil))) (pe_one (pe_not (pe_callB call_isi rfl T.z_isinstance (by decide +kernel) (pa_cons (pv 0) (pa_cons (pe_bltn (v := .ty "bool") rfl T.z_bool (by decide +kernel) rfl) pa_nil)))))))), ?_⟩
  refine ⟨_, rfl, .int i, .ty "int", .type "int", .type "int", true, rfl, .ty _, .base (.int i), kit_ty (by decide +kernel), ?_⟩
  refine ⟨_, rfl, if_true_of rfl ?_⟩
  refine ⟨_, rfl, .int i, .ty "bool", .type "int", .type "bool", false, rfl, .ty _, .base (.int i), kit_ty (by decide +kernel), ?_⟩
  exact ⟨_, rfl, q⟩
theorem ok_form_good (T : Tops w K mg) (G_is_integer : FnOk P w K mg base CX0 1 T.a_is_integer T.d_is_integer ["value"] spIsInt) : FnOk P w K mg base CX0 2 T.a_is_path_form T.d_is_path_form ["value"] (spFormG K) := by
  refine T.F_is_path_form.ok sc_is_path_form (fun vs H Q E h => ?_) (fun cdv A outer s H vs Q E hr h => ?_)
  · obtain ⟨b, a, rfl, _⟩ := h
    rfl
  obtain ⟨b, a, rfl, hB, hne, hl, q⟩ := h
  refine ⟨_, (pss_cons (ps_if (PW.pt (pw_or (pt_not (pt_val (pe_callB call_isi rfl T.z_isinstance (by decide +kernel) (pa_cons (pv 0) (pa_cons (pe_bltn (v := .ty "tuple") rfl T.z_tuple (by decide +kernel) rfl) pa_nil))))) (pw_or1 (pt_cmpR op_lt (pe_callB call_len rfl T.z_len PySem.boot_len (pa_cons (pv 0) pa_nil)) pe_int (nomark _))))) (pss_one (ps_ret pe_bl)) pss_nil)
    (pss_cons (ps_ifC (PW.pt (pw_and (pt_cmpR (op_neD hr.units) (pe_ix ix_tup (pv 0) pe_int (fun _ _ => rfl)) pe_str (nomark _)) (pw_and1 (pt_cmpR (op_neD hr.units) (pe_ix ix_tup (pv 0) pe_int (fun _ _ => rfl)) pe_str (nomark _))))) (pss_one (ps_ret pe_bl)) pss_nil)
    (pss_one (ps_ret (pe_callB (cr_all rfl) rfl T.z_all (by decide +kernel) (pa_cons (pe_lc (own := [(("step" : Str), 1)]) (wi := (iTup K (tSl (rSlA K) (tVar 0) (tPart (tC (.int 1))) tNoPart))) (g := gName 1) (tt := tYes) (te := (tCall spIsInt [] E0 (tCons (tVar 1) tNil))) rfl sc_is_path_form.nd (pi_tup (pe_slice sl_tupA (pv 0) (po_some pe_int) po_none)) (blkOk_by (own := [(("step" : Str), 1)]) (N := N_is_path_form) (sc := defScope s_is_path_form) (by decide +kernel)) (fun _ _ _ _ _ => (pg_name (i := 1) sc_is_path_form.nd rfl (Or.inl rfl))) (fun _ _ _ _ _ => pts_nil) (fun _ _ _ _ _ => (pe_call G_is_integer (hr.mono (by omega)) rfl T.m_is_integer T.F_is_integer.kp T.b_is_integer .nil pass0 (pa_cons (pv 1) pa_nil)))) pa_nil)))))), ?_⟩
  have a0 : atI a.vs 0 = some (.str (kdW a.e)) := atI_nat (j := 0) rfl
  refine ⟨_, rfl, .ref b, .ty "tuple", .type "tuple", .type "tuple", true, rfl, .ty _, ty_tup hB, kit_ty (by decide +kernel), true, rfl, if_false_of rfl ?_⟩
  refine ⟨_, rfl, .ref b, _, rfl, .inr ⟨_, hB, rfl⟩, _, _, rfl, rfl, _, rfl, if_false_of ?_ ?_⟩
  · unfold Way.vs
    rw [List.length_cons, List.length_cons, List.length_map]
    have := List.length_pos_iff.mpr hne
    exact decide_eq_false (by omega)
  have shp : SeqAt.shaped (.str (kdW a.e)) = true := by cases a.e <;> decide +kernel
  refine ⟨fun H1 => H1 = H, ?_, ?_⟩
  · refine ⟨_, rfl, b, _, 0, _, rfl, rfl, hB, a0, .str _, .str "derived", .str _, .str _, shp, by decide +kernel, _, rfl, ?_⟩
    refine if_known (fun h => ?_) (fun h => ?_)
    · have ee : a.e = true := by
        cases e : a.e with
        | true => rfl
        | false =>
          rw [e] at h
          exact absurd h (by decide +kernel)
      exact ⟨_, rfl, b, _, 0, _, rfl, rfl, hB, a0, .str _, .str "effects", .str _, .str _, shp, by decide +kernel, _, rfl, if_false_of (by rw [ee]; decide +kernel) rfl⟩
    · exact if_false_of rfl rfl
  rintro H1 rfl
  refine ⟨_, rfl, 1, rfl, ?_⟩
  dsimp only [tNoPart]
  refine sl_all hB fun p1 H2 s2 h2 => ?_
  rw [cut_from1] at h2
  have vl : (a.vs.drop 1).length ≤ 101 := by unfold Way.vs; rw [List.length_drop, List.length_cons, List.length_cons, List.length_map]; omega
  refine ⟨p1, rfl, ⟨_, h2⟩, fun D hD => fiS_tup (((a.i : Nat) : Int) :: a.st) V.int (fun _ => true) (fun _ => V.bl true) h2 rfl (by rw [List.length_cons]; omega) hD ?_ ?_⟩
  · rintro k x H' hx hs Yes No yes _
    exact ⟨rfl, tYes_of ⟨_, rfl, x, rfl, yes rfl _ (Same.refl _)⟩⟩
  rintro H3 s3 hD3
  rw [Td.filter_all] at hD3
  have e : (((a.i : Nat) : Int) :: a.st).map (fun _ => V.bl true) = ((((a.i : Nat) : Int) :: a.st).map fun _ => true).map V.bl := by rw [List.map_map]; rfl
  rw [e] at hD3
  refine ⟨D, _, rfl, SqL.of hD3, ?_⟩
  have e2 : ((((a.i : Nat) : Int) :: a.st).map fun _ => true).all id = true := by rw [List.all_map, List.all_eq_true]; intro _ _; rfl
  rw [e2]
  exact q H3 (s2.trans s3)
theorem ok_rowb1 (T : Tops w K mg) {n : Nat} (G_row_behind : FnOk P w K mg base CX0 n T.a_row_behind T.d_row_behind ["rows", "steps"] (spBehindR K n)) :
    FnOk P w K mg base CX0 (n + 1) T.a_row_behind T.d_row_behind ["rows", "steps"] (spBehindR K (n + 1)) := by
  refine T.F_row_behind.ok sc_row_behind (fun vs H Q E h => ?_) (fun cdv A outer s H vs Q E hr h => ?_)
  · obtain ⟨v, b, rs, st, S, dep, rfl, _⟩ := h
    rfl
  obtain ⟨v, b, rs, st, S, dep, rfl, hD, hB, ok, hl, hc, hdep, hn, qn, qs⟩ := h
  refine ⟨_, (pss_cons (ps_if (PW.pt (pw_or (pt_cmpR op_eq (pe_callB call_len rfl T.z_len PySem.boot_len (pa_cons (pv 1) pa_nil)) pe_int (nomark _)) (pw_or1 (pt_not (pt_chain op_le op_lt pe_int (pe_ix ix_tup (pv 1) pe_int (fun _ _ => rfl)) (pe_callB call_len rfl T.z_len PySem.boot_len (pa_cons (pv 0) pa_nil))))))) (pss_one (ps_ret pe_non)) pss_nil)
    (pss_cons (ps_set (i := 2) sc_row_behind.nd rfl (Or.inl rfl) (pe_ix ix_tup (pv 0) (pe_ix ix_tup (pv 1) pe_int (fun _ _ => rfl)) (fun _ _ => rfl)))
    (pss_cons (ps_if (pt_cmpR op_eq (pe_callB call_len rfl T.z_len PySem.boot_len (pa_cons (pv 1) pa_nil)) pe_int (nomark _)) (pss_one (ps_ret (pv 2))) pss_nil)
    (pss_cons (ps_if (PW.pt (pw_or (pt_cmpR op_ne (pe_ix ix_tup (pv 2) pe_int (fun _ _ => rfl)) pe_str (nomark _)) (pw_or1 (pt_cmpR op_notIn_seq (pe_ix ix_tup (pv 1) pe_int (fun _ _ => rfl)) (pe_tup (pa_cons pe_int (pa_cons pe_int pa_nil))) (by rfl))))) (pss_one (ps_ret pe_non)) pss_nil)
    (pss_one (ps_ret (pe_call G_row_behind (hr.mono (by omega)) rfl T.m_row_behind T.F_row_behind.kp T.b_row_behind .nil pass0 (pa_cons (pe_ix ix_tup (pv 2) (pe_op op_add pe_int (pe_ix ix_tup (pv 1) pe_int (fun _ _ => rfl))) (fun _ _ => rfl)) (pa_cons (pe_slice sl_tupA (pv 1) (po_some pe_int) po_none) pa_nil))))))))), ?_⟩
  obtain ⟨va, xs, rfl, hS, hX⟩ := Tn.tup_inv hD
  refine ⟨_, rfl, .ref b, _, rfl, .inr ⟨_, hB, rfl⟩, rfl, _, rfl, ?_⟩
  have xl : xs.length = rs.length := by rw [hX.length, rowsD_length]
  rw [List.length_map]
  match st, hB, qn, qs with
  | [], hB, qn, qs =>
    refine if_true_of (by decide) ?_
    refine if_true_of rfl ?_
    exact qn H (Same.refl _) (by unfold rowAt; rfl)
  | i :: st', hB, qn, qs =>
    refine if_false_of (decide_eq_false fun z => by injection z with z; rw [List.length_cons] at z; omega) ?_
    have b0 : atI ((i :: st').map V.int) 0 = some (.int i) := atI_nat (j := 0) rfl
    refine ⟨_, rfl, b, _, 0, _, rfl, rfl, hB, b0, _, _, rfl, rfl, _, rfl, ?_⟩
    by_cases h0 : 0 ≤ i
    · refine if_true_of (decide_eq_true h0) ?_
      refine ⟨_, rfl, .ref va, _, rfl, .inr ⟨_, hS, rfl⟩, _, _, rfl, rfl, _, rfl, ?_⟩
      obtain ⟨k, rfl⟩ : ∃ k : Nat, i = (k : Nat) := ⟨i.toNat, by omega⟩
      by_cases h1 : k < xs.length
      · refine if_false_of (by rw [decide_eq_true (by omega)]; rfl) ?_
        obtain ⟨r, hr⟩ : ∃ r, rs[k]? = some r := ⟨_, List.getElem?_eq_getElem (by omega)⟩
        obtain ⟨x, hx⟩ : ∃ x, xs[k]? = some x := ⟨_, List.getElem?_eq_getElem h1⟩
        obtain ⟨d, hd1, hd2⟩ := TnAll.get hX hx
        rw [rowsD_get hr] at hd1
        obtain rfl := Option.some.inj hd1
        refine ⟨_, rfl, _, rfl, b, _, 0, _, rfl, rfl, hB, b0, va, _, (k : Nat), x, rfl, rfl, hS, atI_nat hx, ?_⟩
        refine ⟨_, rfl, .ref b, _, rfl, .inr ⟨_, hB, rfl⟩, rfl, _, rfl, ?_⟩
        rw [List.length_map]
        obtain ⟨ra, zs, rfl, hR, hz0⟩ := row_at (Tn.dp hd2)
        have okr := okRs_get ok hr
        cases st' with
        | nil =>
          refine if_true_of (decide_eq_true rfl) ⟨_, rfl, ?_⟩
          exact qs _ r H (Same.refl _) (by unfold rowAt; rw [getI_nat]; exact hr) hd2
        | cons j st2 =>
          refine if_false_of (decide_eq_false fun z => by injection z with z; rw [List.length_cons, List.length_cons] at z; omega) ?_
          have b1 : atI (((k : Nat) : Int) :: j :: st2 |>.map V.int) 1 = some (.int j) := atI_nat (j := 1) rfl
          have nope : ∀ H', Same H H' → ((∀ s u y n, r ≠ .ite s u y n) ∨ (j ≠ 0 ∧ j ≠ 1)) → Q .non H' := fun H' s' h => by
            refine qn H' s' ?_
            unfold rowAt
            rw [getI_nat, hr]
            cases r with
            | ite s u y n =>
              rcases h with h | ⟨h2, h3⟩
              · exact absurd rfl (h s u y n)
              · show (if j = 0 then _ else if j = 1 then _ else _) = _
                rw [if_neg h2, if_neg h3]
            | _ => rfl
          refine ⟨_, rfl, ra, _, 0, _, rfl, rfl, hR, atI_nat (j := 0) hz0, rfl, _, rfl, ?_⟩
          rw [tag_if]
          cases hi : isIte r with
          | false =>
            refine if_true_of rfl ?_
            refine if_true_of rfl ?_
            exact nope H (Same.refl _) (.inl fun s u y n e => by rw [e] at hi; cases hi)
          | true =>
            refine if_false_of rfl ?_
            obtain ⟨sl, u, y, n', rfl⟩ : ∃ s u y n', r = .ite s u y n' := by
              cases r with
              | ite s u y n => exact ⟨s, u, y, n, rfl⟩
              | _ => cases hi
            refine ⟨_, rfl, b, _, 1, _, rfl, rfl, hB, b1, by show 2 ≤ sizeLine; decide, fun t ht => ?_⟩
            have z1 := Same.new ht (.tup [V.int 0, .int 1])
            refine ⟨t, _, rfl, .inr (SqT.of upd_same), rfl, rfl, _, rfl, ?_⟩
            have ein : inV (.int j) [V.int 0, .int 1] = (decide (j = 0) || decide (j = 1)) := by
              show (eqV (.int 0) (.int j) || (eqV (.int 1) (.int j) || false)) = _
              rw [Bool.or_false]
              congr 1
              · by_cases h : j = 0
                · subst h; rfl
                · rw [decide_eq_false h]; simp [eqV]; omega
              · by_cases h : j = 1
                · subst h; rfl
                · rw [decide_eq_false h]; simp [eqV]; omega
            rw [ein]
            have hB2 := SqT.same z1 hB
            have hd3 := Tn.same z1 hd2
            generalize upd H t (.tup [V.int 0, .int 1]) = H2 at z1 hB2 hd3
            obtain ⟨ra', vy, vn, er, hR2, hyD, hnD⟩ := ite_tn hd3
            cases er
            unfold okR at okr
            by_cases hj : j = 0 ∨ j = 1
            · refine if_false_of (by rcases hj with h | h <;> subst h <;> rfl) ?_
              have ecn := cnts_get hr
              have ec2 : Td.cnt (.ite sl u y n') = 1 + cnts y + cnts n' := by unfold Td.cnt; rfl
              obtain ⟨vk, rk, hk, hDk, okk, hck, hat⟩ : ∃ (vk : V) (rk : List Td.Row), atI [V.str "if", .str sl, .str u, vy, vn] (3 + j) = some vk ∧ Tn K H2 vk (.tuple (rowsD rk)) ∧ okRs S (dep + 1) rk ∧ cnts rk ≤ 100 ∧ rowAt rs (((k : Nat) : Int) :: j :: st2) = rowAt rk st2 := by
                have er : rowAt rs (((k : Nat) : Int) :: j :: st2) = if j = 0 then rowAt y st2 else if j = 1 then rowAt n' st2 else none := by
                  conv => lhs; rw [rowAt]
                  rw [getI_nat, hr]
                rcases hj with rfl | rfl
                · exact ⟨vy, y, rfl, hyD, okr.2.2.2.1, by omega, by rw [er, if_pos rfl]⟩
                · exact ⟨vn, n', rfl, hnD, okr.2.2.2.2, by omega, by rw [er, if_neg (by decide), if_pos rfl]⟩
              refine ⟨_, rfl, _, rfl, b, _, 1, _, rfl, rfl, hB2, b1, _, _, rfl, rfl, ra, _, _, vk, rfl, rfl, hR2, hk, _, rfl, 2, rfl, ?_⟩
              dsimp only [tNoPart]
              refine sl_all hB2 fun p1 H3 s3 h3 => ?_
              rw [show cutV ((((k : Nat) : Int) :: j :: st2).map V.int) (some (2 : Int)) none = ((((k : Nat) : Int) :: j :: st2).map V.int).drop 2 from cut_fromN _ 2] at h3
              have s03 := z1.trans s3
              refine ⟨vk, p1, rk, st2, S, dep + 1, rfl, Tn.same s3 hDk, h3, okk, by have := len_cnts rk; omega, hck, by omega, by omega, fun H' s' e => ?_, fun x r H' s' e hx => ?_⟩
              · exact qn H' (s03.trans s') (by rw [hat]; exact e)
              · exact qs x r H' (s03.trans s') (by rw [hat]; exact e) hx
            · refine if_true_of (by rw [decide_eq_false fun h => hj (.inl h), decide_eq_false fun h => hj (.inr h)]; rfl) ?_
              exact nope H2 z1 (.inr ⟨fun h => hj (.inl h), fun h => hj (.inr h)⟩)
      · refine if_true_of (by rw [decide_eq_false (by omega)]; rfl) ?_
        refine qn H (Same.refl _) ?_
        have : rs[k]? = none := List.getElem?_eq_none (by omega)
        cases st' with
        | nil => unfold rowAt; rw [getI_nat]; exact this
        | cons j st' => unfold rowAt; rw [getI_nat, this]
    · refine if_false_of (decide_eq_false h0) ⟨_, rfl, if_true_of rfl ?_⟩
      refine qn H (Same.refl _) ?_
      have : getI rs i = none := if_neg h0
      cases st' with
      | nil => unfold rowAt; exact this
      | cons j st' => unfold rowAt; rw [this]
theorem ok_rowb (T : Tops w K mg) : ∀ k, FnOk P w K mg base CX0 k T.a_row_behind T.d_row_behind ["rows", "steps"] (spBehindR K k)
  | 0 => by
    have no : ∀ vs H Q E, ¬ spBehindR K 0 vs H Q E := fun vs H Q E h => by
      obtain ⟨_, _, _, _, _, dep, _, _, _, _, _, _, h1, h2, _⟩ := h
      omega
    exact ⟨fun vs H Q E h => absurd h (no vs H Q E), fun A outer s H args us vs Q E _ _ _ _ h => absurd h (no vs H Q E)⟩
  | k + 1 => ok_rowb1 T (ok_rowb T k)
def spRowAtG (K : PySem.W.Frag) (CP : Addr) : Sp := fun vs H Q _ => ∃ (pa b : Addr) (p : PP) (m : Nat) (a : Way) (q : Str × List Td.Row) (r : Td.Row), vs = [.ref pa, .ref b] ∧ ProgAt K H CP pa p ∧ p.Ok m ∧ m ≤ 16 ∧ SqT K H b a.vs ∧ a.st.length ≤ 100 ∧ (bodiesOf p a.e)[a.i]? = some q ∧ rowAt q.2 a.st = some r ∧
  ∀ (x : V) H', Same H H' → Tn K H' x (rowD r) → Q x H'
theorem ok_row_at (T : Tops w K mg) (G_is_path_form : FnOk P w K mg base CX0 2 T.a_is_path_form T.d_is_path_form ["value"] (spFormG K))
    (G_row_behind : FnOk P w K mg base CX0 4 T.a_row_behind T.d_row_behind ["rows", "steps"] (spBehindR K 4)) :
    FnOk P w K mg base CX0 5 T.a_Program_row_at T.d_Program_row_at ["self", "path"] (spRowAtG K T.c_Program) := by
  refine T.F_Program_row_at.ok sc_Program_row_at (fun vs H Q E h => ?_) (fun cdv A outer s H vs Q E hr h => ?_)
  · obtain ⟨pa, b, p, m, a, q, r, rfl, _⟩ := h
    rfl
  obtain ⟨pa, b, p, m, a, q, r, rfl, hP, ok, hm, hB, al, hq, hrow, fin⟩ := h
  obtain ⟨dx, aw, as, vd, ve, ⟨dn, en, e, hdn, hen⟩, h1, h2, h3, h4⟩ := hP.ex
  obtain ⟨ad, xs, rfl, hA, hl, hx⟩ := pairs_at h3
  obtain ⟨ae, ys, rfl, hA2, hl2, hx2⟩ := pairs_at h4
  refine ⟨_, (pss_cons (ps_set (i := 2) sc_Program_row_at.nd rfl (Or.inl rfl) pe_non)
    (pss_cons (ps_if (pt_val (pe_call G_is_path_form (hr.mono (by omega)) rfl T.m_is_path_form T.F_is_path_form.kp T.b_is_path_form .nil pass0 (pa_cons (pv 1) pa_nil))) (pss_cons (ps_set (i := 3) sc_Program_row_at.nd rfl (Or.inl rfl) (pe_ifExp (pt_cmpR op_eq (pe_ix ix_tup (pv 1) pe_int (fun _ _ => rfl)) pe_str (nomark _)) (pe_fld (pv 0) rfl) (pe_fld (pv 0) rfl)))
    (pss_one (ps_if (pt_chain op_le op_lt pe_int (pe_ix ix_tup (pv 1) pe_int (fun _ _ => rfl)) (pe_callB call_len rfl T.z_len PySem.boot_len (pa_cons (pv 3) pa_nil))) (pss_one (ps_set (i := 2) sc_Program_row_at.nd rfl (Or.inl rfl) (pe_call G_row_behind (hr.mono (by omega)) rfl T.m_row_behind T.F_row_behind.kp T.b_row_behind .nil pass0 (pa_cons (pe_ix ix_tup (pe_ix ix_tup (pv 3) (pe_ix ix_tup (pv 1) pe_int (fun _ _ => rfl)) (fun _ _ => rfl)) pe_int (fun _ _ => rfl)) (pa_cons (pe_slice sl_tupA (pv 1) (po_some pe_int) po_none) pa_nil))))) pss_nil))) pss_nil)
    (pss_cons (ps_if (pt_cmpR op_isN (pv 2) pe_non (nomark _)) (pss_one ps_never) pss_nil)
    (pss_one (ps_ret (pv 2)))))), ?_⟩
  refine ⟨_, rfl, b, a, rfl, hB, rowAt_ne hrow, al, fun H1 s1 => ⟨_, rfl, if_true_of rfl ?_⟩⟩
  have a0 : atI a.vs 0 = some (.str (kdW a.e)) := atI_nat (j := 0) rfl
  have a1 : atI a.vs 1 = some (.int (a.i : Nat)) := atI_nat (j := 1) rfl
  have e1 := s1 _ _ e
  have hB1 := SqT.same s1 hB
  obtain ⟨av, zs, S, x, bb, vr, epk, hZ, zl, hx0, ex, hb0, hvr, okS, hc⟩ : ∃ (av : Addr) (zs : List V) (S : Sc) (x : V) (bb : Addr) (vr : V), av = (if a.e then ae else ad) ∧ SqT K H av zs ∧ a.i < zs.length ∧ zs[a.i]? = some x ∧ x = .ref bb ∧ SqT K H bb [.str q.1, vr] ∧ Tn K H vr (.tuple (rowsD q.2)) ∧ okRs S 1 q.2 ∧ cnts q.2 ≤ m := by
    cases ee : a.e with
    | false =>
      rw [ee] at hq
      have hq' : p.derived[a.i]? = some q := hq
      have il : a.i < xs.length := by rw [hl]; exact (List.getElem?_eq_some_iff.mp hq').1
      obtain ⟨q2, b2, vr, g1, g2, g3, g4⟩ := hx a.i _ (List.getElem?_eq_getElem il)
      rw [hq'] at g1
      cases g1
      obtain ⟨o1, o2⟩ := okDer_get ok.der hq'
      exact ⟨ad, xs, _, _, b2, vr, rfl, hA, il, List.getElem?_eq_getElem il, g2, g3, g4, o1, o2⟩
    | true =>
      rw [ee] at hq
      have hq' : p.effects[a.i]? = some q := hq
      have il : a.i < ys.length := by rw [hl2]; exact (List.getElem?_eq_some_iff.mp hq').1
      obtain ⟨q2, b2, vr, g1, g2, g3, g4⟩ := hx2 a.i _ (List.getElem?_eq_getElem il)
      rw [hq'] at g1
      cases g1
      obtain ⟨o1, o2⟩ := okEff_get ok.eff hq'
      exact ⟨ae, ys, _, _, b2, vr, rfl, hA2, il, List.getElem?_eq_getElem il, g2, g3, g4, o1, o2⟩
  subst ex
  refine ⟨_, rfl, b, _, 0, _, rfl, rfl, hB1, a0, rfl, _, rfl, ?_⟩
  have go : ∀ {Q' : V → Hp → Prop}, Q' (.ref av) H1 → if decide (V.str (kdW a.e) = V.str "derived") = true then tFld K (tVar 0) "derived" [some (.ref pa), some (.ref b), some .non, none] H1 Q' else tFld K (tVar 0) "effects" [some (.ref pa), some (.ref b), some .non, none] H1 Q' := fun {Q'} z => by
    rw [epk] at z
    cases ee : a.e with
    | false =>
      rw [ee] at z
      exact if_true_of (by decide +kernel) ⟨_, rfl, pa, _, dx, _, _, rfl, e1, T.l_Program, T.n_Program_derived, progF_derived .., z⟩
    | true =>
      rw [ee] at z
      exact if_false_of (by decide +kernel) ⟨_, rfl, pa, _, dx, _, _, rfl, e1, T.l_Program, T.n_Program_effects, progF_effects .., z⟩
  refine go ?_
  have hZ1 := SqT.same s1 hZ
  refine ⟨_, rfl, b, _, 1, _, rfl, rfl, hB1, a1, _, _, rfl, rfl, _, rfl, if_true_of (decide_eq_true (by omega)) ?_⟩
  refine ⟨_, rfl, .ref av, _, rfl, .inr ⟨_, hZ1, rfl⟩, _, _, rfl, rfl, _, rfl, if_true_of (decide_eq_true (by omega)) ?_⟩
  refine ⟨_, rfl, _, rfl, b, _, 1, _, rfl, rfl, hB1, a1, av, _, _, .ref bb, rfl, rfl, hZ1, atI_nat hx0, bb, _, 1, vr, rfl, rfl, SqT.same s1 hb0, rfl, _, rfl, 2, rfl, ?_⟩
  dsimp only [tNoPart]
  refine sl_all hB1 fun p1 H2 s2 h2' => ?_
  rw [show cutV a.vs (some (2 : Int)) none = a.vs.drop 2 from cut_fromN _ 2] at h2'
  have s02 := s1.trans s2
  refine ⟨vr, p1, q.2, a.st, S, 1, rfl, Tn.same s02 hvr, h2', okS, by have := len_cnts q.2; omega, by omega, by decide, by decide, fun H' s' z => ?_, fun x r' H' s' z hx' => ?_⟩
  · rw [hrow] at z; cases z
  rw [hrow] at z
  cases z
  obtain ⟨ar, zs2, rfl, hR, _⟩ := row_at (Tn.dp hx')
  exact ⟨_, rfl, rfl, _, rfl, if_false_of (decide_eq_false fun z => nomatch z) ⟨_, rfl, fin _ H' (s02.trans s') hx'⟩⟩
def chS (pk : Bool) : Str := if pk then "peek" else "early"
def spIsChG (K : PySem.W.Frag) (CP : Addr) : Sp := fun vs H Q _ => ∃ (pa t b : Addr) (p : PP) (m : Nat) (c : Bool × Way) (q : Str × List Td.Row) (x s : Str), vs = [.ref pa, .ref t] ∧ ProgAt K H CP pa p ∧ p.Ok m ∧ m ≤ 16 ∧ SqT K H t [.str (chS c.1), .ref b] ∧ SqT K H b c.2.vs ∧ c.2.st.length ≤ 100 ∧ (bodiesOf p c.2.e)[c.2.i]? = some q ∧ rowAt q.2 c.2.st = some (.rd false x s) ∧
  (c.1 = true → c.2.e = true) ∧ ∀ H', Same H H' → Q (.bl true) H'
theorem ok_is_change (T : Tops w K mg) (G_Program_row_at : FnOk P w K mg base CX0 5 T.a_Program_row_at T.d_Program_row_at ["self", "path"] (spRowAtG K T.c_Program)) :
    FnOk P w K mg base CX0 6 T.a_is_change T.d_is_change ["program", "value"] (spIsChG K T.c_Program) := by
  refine T.F_is_change.ok sc_is_change (fun vs H Q E h => ?_) (fun cdv A outer s H vs Q E hr h => ?_)
  · obtain ⟨pa, t, b, p, m, c, q, x, s, rfl, _⟩ := h
    rfl
  obtain ⟨pa, t, b, p, m, c, q, x, sl, rfl, hP, ok, hm, hT, hB, al, hq, hrow, heff, fin⟩ := h
  obtain ⟨dx, aw, as, vd, ve, ⟨dn, en, e, hdn, hen⟩, h1, h2, h3, h4⟩ := hP.ex
  refine ⟨_, (pss_cons (ps_if (PW.pt (pw_or (pt_not (pt_val (pe_callB call_isi rfl T.z_isinstance (by decide +kernel) (pa_cons (pv 1) (pa_cons (pe_bltn (v := .ty "tuple") rfl T.z_tuple (by decide +kernel) rfl) pa_nil))))) (pw_or1 (pt_cmpR op_ne (pe_callB call_len rfl T.z_len PySem.boot_len (pa_cons (pv 1) pa_nil)) pe_int (nomark _))))) (pss_one (ps_ret pe_bl)) pss_nil)
    (pss_cons (ps_asg (pv 1) (pg_tup rfl (pgs_cons (pg_name (i := 2) sc_is_change.nd rfl (Or.inl rfl)) (pgs_cons (pg_name (i := 3) sc_is_change.nd rfl (Or.inl rfl)) pgs_nil))))
    (pss_cons (ps_try_thru0 (pss_one (ps_set (i := 4) sc_is_change.nd rfl (Or.inl rfl) (pe_meth (pv 0) T.l_Program T.t_Program_row_at G_Program_row_at (hr.mono (by omega)) T.b_Program_row_at .nil pass0 (pa_cons (pv 3) pa_nil)))))
    (pss_cons (ps_if (pt_cmpR op_ne (pe_ix ix_tup (pv 4) pe_int (fun _ _ => rfl)) pe_str (nomark _)) (pss_one (ps_ret pe_bl)) pss_nil)
    (pss_one (ps_ret (pe_or (pe_cmpR op_eq (pv 2) pe_str (nomark _)) (pe_one (pe_and (pe_cmpR op_eq (pv 2) pe_str (nomark _)) (pe_one (pe_cmpR op_eq (pe_ix ix_tup (pv 3) pe_int (fun _ _ => rfl)) pe_str (nomark _)))))))))))), ?_⟩
  refine ⟨_, rfl, .ref t, .ty "tuple", .type "tuple", .type "tuple", true, rfl, .ty _, ty_tup hT, kit_ty (by decide +kernel), true, rfl, if_false_of rfl ?_⟩
  refine ⟨_, rfl, .ref t, _, rfl, .inr ⟨_, hT, rfl⟩, rfl, _, rfl, if_false_of rfl ?_⟩
  refine ⟨_, rfl, t, _, rfl, hT, rfl, _, _, rfl, _, _, rfl, rfl, ?_⟩
  refine ⟨_, rfl, pa, dx, _, rfl, e, by kernel_rfl, _, rfl, pa, b, p, m, c.2, q, _, rfl, hP, ok, hm, hB, al, hq, hrow, fun v H1 s1 hv => ?_⟩
  obtain ⟨ra, rfl, hR⟩ := rd_tn hv
  refine ⟨_, rfl, ra, _, 0, _, rfl, rfl, hR, rfl, rfl, _, rfl, if_false_of (by decide +kernel) ?_⟩
  have hB1 := SqT.same s1 hB
  cases ec : c.1 with
  | false => exact ⟨_, rfl, rfl, _, rfl, if_true_of (by decide +kernel) (fin H1 s1)⟩
  | true =>
    have a0 : atI c.2.vs 0 = some (.str (kdW c.2.e)) := atI_nat (j := 0) rfl
    refine ⟨_, rfl, rfl, _, rfl, if_false_of (by decide +kernel) ?_⟩
    refine ⟨_, rfl, rfl, _, rfl, if_true_of (by decide +kernel) ?_⟩
    refine ⟨_, rfl, b, _, 0, _, rfl, rfl, hB1, a0, rfl, ?_⟩
    rw [heff ec]
    exact fin H1 s1
end
end K80
namespace K80
open PySem PySem.Spec PyProof.Rows L2 Td
theorem rowsD_map : ∀ rs : List Td.Row, rowsD rs = rs.map rowD
  | [] => by unfold rowsD; rfl
  | r :: rs => by unfold rowsD; rw [rowsD_map rs]; rfl
theorem tn_tk {K : PySem.W.Frag} {H : Hp} : ∀ {xs : List V} {ds : List PyData} (k : Nat), TnAll K H xs ds → TnAll K H (xs.take k) (ds.take k)
  | _, _, 0, _ => .nil
  | _, _, k + 1, .nil => .nil
  | _, _, k + 1, .cons a b => .cons a (tn_tk k b)
theorem tn_dr {K : PySem.W.Frag} {H : Hp} : ∀ {xs : List V} {ds : List PyData} (k : Nat), TnAll K H xs ds → TnAll K H (xs.drop k) (ds.drop k)
  | _, _, 0, h => h
  | _, _, k + 1, .nil => .nil
  | _, _, k + 1, .cons _ b => tn_dr k b
theorem tn_put {K : PySem.W.Frag} {H : Hp} {xs : List V} {rs : List Td.Row} {x : V} {r : Td.Row} {k : Nat} (h : TnAll K H xs (rowsD rs)) (hk : k < rs.length) (hx : Tn K H x (rowD r)) : TnAll K H ((xs.take k ++ [x]) ++ xs.drop (k + 1)) (rowsD (rs.set k r)) := by
  have e : rowsD (rs.set k r) = ((rowsD rs).take k ++ [rowD r]) ++ (rowsD rs).drop (k + 1) := by
    rw [rowsD_map, rowsD_map, List.set_eq_take_append_cons_drop, if_pos hk, List.map_append, List.map_cons, List.map_take, List.map_drop, List.append_assoc]
    rfl
  rw [e]
  exact TnAll.append (TnAll.append (tn_tk k h) (.cons hx .nil)) (tn_dr (k + 1) h)
theorem pkRs_at : ∀ (st : List Int) {rs ts : List Td.Row} {r : Td.Row}, pkRs rs ts → rowAt rs st = some r → ∃ t, rowAt ts st = some t ∧ pkR r t
  | [], rs, ts, r, _, e => by unfold rowAt at e; cases e
  | [i], rs, ts, r, h, e => by
    obtain ⟨k, rfl, e⟩ := rowAt_one e
    obtain ⟨t, h1, h2⟩ := pkRs_get h e
    exact ⟨t, by unfold rowAt; rw [getI_nat]; exact h1, h2⟩
  | i :: j :: st, rs, ts, r, h, e => by
    obtain ⟨k, s', u, y, n, rfl, e1, e2⟩ := rowAt_two e
    obtain ⟨t, ht, hp⟩ := pkRs_get h e1
    unfold pkR at hp
    obtain ⟨y', n', rfl, hy, hn⟩ := hp
    have step : rowAt ts (((k : Nat) : Int) :: j :: st) = if j = 0 then rowAt y' st else if j = 1 then rowAt n' st else none := by
      conv => lhs; rw [rowAt]
      rw [getI_nat, ht]
    rcases e2 with ⟨rfl, e2⟩ | ⟨rfl, e2⟩
    · obtain ⟨t2, a, b⟩ := pkRs_at st hy e2
      exact ⟨t2, by rw [step, if_pos rfl]; exact a, b⟩
    · obtain ⟨t2, a, b⟩ := pkRs_at st hn e2
      exact ⟨t2, by rw [step, if_neg (by decide), if_pos rfl]; exact a, b⟩
def spRowsWith (K : PySem.W.Frag) (n : Nat) : Sp := fun vs H Q _ => ∃ (v : V) (b : Addr) (x : V) (rs : List Td.Row) (st : List Int) (r0 r : Td.Row) (S : Sc) (dep : Nat), vs = [v, .ref b, x] ∧ Tn K H v (.tuple (rowsD rs)) ∧ SqT K H b (st.map V.int) ∧ Tn K H x (rowD r) ∧ rowAt rs st = some r0 ∧ okRs S dep rs ∧ cnts rs ≤ 100 ∧ dep ≤ 4 ∧ 5 ≤ dep + n ∧
  ∀ (v' : V) H', Same H H' → Tn K H' v' (.tuple (rowsD (setAt rs st r))) → Q v' H'
section
variable {P : Program} {w : World} {K : PySem.W.Frag} {mg : Str → Option Value} {base : Heap}
theorem ok_with1 (T : Tops w K mg) {n : Nat} (G_rows_with : FnOk P w K mg base CX0 n T.a_rows_with T.d_rows_with ["rows", "steps", "row"] (spRowsWith K n)) :
    FnOk P w K mg base CX0 (n + 1) T.a_rows_with T.d_rows_with ["rows", "steps", "row"] (spRowsWith K (n + 1)) := by
  refine T.F_rows_with.ok sc_rows_with (fun vs H Q E h => ?_) (fun cdv A outer s H vs Q E hr h => ?_)
  · obtain ⟨v, b, x, rs, st, r0, r, S, dep, rfl, _⟩ := h
    rfl
  obtain ⟨v, b, x, rs, st, r0, r, S, dep, rfl, hD, hB, hX, hat, ok, hc, hdep, hn, q⟩ := h
  obtain ⟨va, xs, rfl, hS, hT⟩ := Tn.tup_inv hD
  have xl : xs.length = rs.length := by rw [hT.length, rowsD_length]
  have rl := len_cnts rs
  refine ⟨_, (pss_cons (ps_set (i := 3) sc_rows_with.nd rfl (Or.inl rfl) (pe_ix ix_tup (pv 1) pe_int (fun _ _ => rfl)))
    (pss_cons (ps_set (i := 4) sc_rows_with.nd rfl (Or.inl rfl) (pv 2))
    (pss_cons (ps_if (pt_cmpR op_gt (pe_callB call_len rfl T.z_len PySem.boot_len (pa_cons (pv 1) pa_nil)) pe_int (nomark _)) (pss_cons (ps_set (i := 5) sc_rows_with.nd rfl (Or.inl rfl) (pe_ix ix_tup (pv 0) (pv 3) (fun _ _ => rfl)))
    (pss_cons (ps_set (i := 6) sc_rows_with.nd rfl (Or.inl rfl) (pe_op op_add pe_int (pe_ix ix_tup (pv 1) pe_int (fun _ _ => rfl))))
    (pss_cons (ps_set (i := 7) sc_rows_with.nd rfl (Or.inl rfl) (pe_call G_rows_with (hr.mono (by omega)) rfl T.m_rows_with T.F_rows_with.kp T.b_rows_with .nil pass0 (pa_cons (pe_ix ix_tup (pv 5) (pv 6) (fun _ _ => rfl)) (pa_cons (pe_slice sl_tupA (pv 1) (po_some pe_int) po_none) (pa_cons (pv 2) pa_nil)))))
    (pss_one (ps_set (i := 4) sc_rows_with.nd rfl (Or.inl rfl) (pe_op op_catA (pe_op op_catA (pe_slice sl_tupA (pv 5) po_none (po_some (pv 6))) (pe_tup (pa_cons (pv 7) pa_nil))) (pe_slice sl_tupA (pv 5) (po_some (pe_op op_add (pv 6) pe_int)) po_none))))))) pss_nil)
    (pss_one (ps_ret (pe_op op_catA (pe_op op_catA (pe_slice sl_tupA (pv 0) po_none (po_some (pv 3))) (pe_tup (pa_cons (pv 4) pa_nil))) (pe_slice sl_tupA (pv 0) (po_some (pe_op op_add (pv 3) pe_int)) po_none))))))), ?_⟩
  match st, hat, hB, q with
  | [], hat, _, _ => exact absurd hat (by unfold rowAt; intro z; cases z)
  | [i], hat, hB, q =>
    obtain ⟨k, rfl, e⟩ := rowAt_one hat
    have kl := (List.getElem?_eq_some_iff.mp e).1
    have b0 : atI (([((k : Nat) : Int)] : List Int).map V.int) 0 = some (.int (k : Nat)) := atI_nat (j := 0) rfl
    refine ⟨_, rfl, b, _, 0, _, rfl, rfl, hB, b0, _, rfl, ?_⟩
    refine ⟨_, rfl, .ref b, _, rfl, .inr ⟨_, hB, rfl⟩, _, _, rfl, rfl, _, rfl, if_false_of rfl ?_⟩
    refine ⟨_, rfl, ?_⟩
    dsimp only [tNoPart]
    refine ⟨_, rfl, (k : Nat), rfl, sl_all hS fun p1 H1 s1 h1 => ?_⟩
    rw [cut_to _ k (by omega)] at h1
    refine ⟨_, rfl, by show 1 ≤ sizeLine; decide, fun u hu => cat_all (SqT.same (Same.new hu _) h1) (SqT.of upd_same) (Nat.le_of_lt (small1000 (by rw [List.length_take]; show _ + 1 ≤ _; omega))) (fun c H2 s2 hc2 => ?_)⟩
    have s12 := s1.trans ((Same.new hu (.tup [x])).trans s2)
    refine ⟨_, rfl, _, rfl, _, _, rfl, rfl, ((k + 1 : Nat) : Int), rfl, ?_⟩
    dsimp only [tNoPart]
    refine sl_all (SqT.same s12 hS) fun p2 H3 s3 h3 => ?_
    rw [cut_fromN] at h3
    refine cat_all (SqT.same s3 hc2) h3 (Nat.le_of_lt (small1000 (by rw [List.length_append, List.length_take, List.length_drop]; show _ + 1 + _ ≤ _; omega))) (fun c2 H4 s4 hc4 => ?_)
    have s14 := (s12.trans s3).trans s4
    refine q (.ref c2) H4 s14 (.tup hc4 ?_)
    show TnAll K H4 _ (rowsD (rs.set ((k : Nat) : Int).toNat r))
    exact tn_put (TnAll.keep (TK.of_same s14) hT) kl (Tn.same s14 hX)
  | i :: j :: st2, hat, hB, q =>
    obtain ⟨k, sl, u, y, nn, rfl, e1, e2⟩ := rowAt_two hat
    have kl := (List.getElem?_eq_some_iff.mp e1).1
    have b0 : atI ((((k : Nat) : Int) :: j :: st2).map V.int) 0 = some (.int (k : Nat)) := atI_nat (j := 0) rfl
    have b1 : atI ((((k : Nat) : Int) :: j :: st2).map V.int) 1 = some (.int j) := atI_nat (j := 1) rfl
    refine ⟨_, rfl, b, _, 0, _, rfl, rfl, hB, b0, _, rfl, ?_⟩
    refine ⟨_, rfl, .ref b, _, rfl, .inr ⟨_, hB, rfl⟩, _, _, rfl, rfl, _, rfl, if_true_of (decide_eq_true (by rw [List.length_map, List.length_cons, List.length_cons]; omega)) ?_⟩
    obtain ⟨hx, hhx⟩ : ∃ z, xs[k]? = some z := ⟨_, List.getElem?_eq_getElem (by omega)⟩
    obtain ⟨d, hd1, hd2⟩ := TnAll.get hT hhx
    rw [rowsD_get e1] at hd1
    obtain rfl := Option.some.inj hd1
    obtain ⟨ra, vy, vn, rfl, hR, hyD, hnD⟩ := ite_tn hd2
    have okr := okRs_get ok e1
    unfold okR at okr
    have ecn := cnts_get e1
    have ec2 : Td.cnt (.ite sl u y nn) = 1 + cnts y + cnts nn := by unfold Td.cnt; rfl
    refine ⟨_, rfl, _, rfl, va, _, (k : Nat), .ref ra, rfl, rfl, hS, atI_nat hhx, ?_⟩
    refine ⟨_, rfl, b, _, 1, _, rfl, rfl, hB, b1, _, _, rfl, rfl, ?_⟩
    have est : setAt rs (((k : Nat) : Int) :: j :: st2) r = if j = 0 then rs.set k (.ite sl u (setAt y st2 r) nn) else rs.set k (.ite sl u y (setAt nn st2 r)) := by
      conv => lhs; rw [setAt]
      rw [getI_nat, e1]
      rfl
    obtain ⟨kk, vk, rk, r2, ekk, k5, hk, hDk, okk, hck, hatk, eset, hnew⟩ : ∃ (kk : Nat) (vk : V) (rk : List Td.Row) (r2 : List Td.Row → Td.Row), 3 + j = ((kk : Nat) : Int) ∧ kk + 1 ≤ 5 ∧ [V.str "if", .str sl, .str u, vy, vn][kk]? = some vk ∧ Tn K H vk (.tuple (rowsD rk)) ∧ okRs S (dep + 1) rk ∧ cnts rk ≤ 100 ∧ rowAt rk st2 = some r0 ∧
        setAt rs (((k : Nat) : Int) :: j :: st2) r = rs.set k (r2 (setAt rk st2 r)) ∧ ∀ (H' : Hp) (c : Addr) (v' : V) (ts : List Td.Row), Same H H' → Tn K H' v' (.tuple (rowsD ts)) → SqT K H' c ((([V.str "if", .str sl, .str u, vy, vn].take kk) ++ [v']) ++ [V.str "if", .str sl, .str u, vy, vn].drop (kk + 1)) → Tn K H' (.ref c) (rowD (r2 ts)) := by
      rcases e2 with ⟨rfl, e2⟩ | ⟨rfl, e2⟩
      · refine ⟨3, vy, y, fun ts => .ite sl u ts nn, rfl, by decide, rfl, hyD, okr.2.2.2.1, by omega, e2, by rw [est, if_pos rfl], fun H' c v' ts s' hv hc => ?_⟩
        unfold rowD
        exact .tup hc (.cons (.str _) (.cons (.str _) (.cons (.str _) (.cons hv (.cons (Tn.same s' hnD) .nil)))))
      · refine ⟨4, vn, nn, fun ts => .ite sl u y ts, rfl, by decide, rfl, hnD, okr.2.2.2.2, by omega, e2, by rw [est, if_neg (by decide)], fun H' c v' ts s' hv hc => ?_⟩
        unfold rowD
        exact .tup hc (.cons (.str _) (.cons (.str _) (.cons (.str _) (.cons (Tn.same s' hyD) (.cons hv .nil)))))
    show tSeq _ _ _ [some (.ref va), some (.ref b), some x, some (.int (k : Nat)), some x, some (.ref ra), some (.int (3 + j)), none] _
    rw [ekk]
    refine ⟨_, rfl, _, rfl, ra, _, _, vk, rfl, rfl, hR, atI_nat hk, _, rfl, 2, rfl, ?_⟩
    dsimp only [tNoPart]
    refine sl_all hB fun p0 H1 s1 h1 => ?_
    rw [show cutV ((((k : Nat) : Int) :: j :: st2).map V.int) (some (2 : Int)) none = ((((k : Nat) : Int) :: j :: st2).map V.int).drop 2 from cut_fromN _ 2] at h1
    refine ⟨_, rfl, vk, p0, x, rk, st2, r0, r, S, dep + 1, rfl, Tn.same s1 hDk, h1, Tn.same s1 hX, hatk, okk, hck, by omega, by omega, fun v' H2 s2 hv' => ?_⟩
    have s12 := s1.trans s2
    have hR2 := SqT.same s12 hR
    -- the holder
    refine ⟨_, rfl, ?_⟩
    dsimp only [tNoPart]
    refine ⟨_, rfl, (kk : Nat), rfl, sl_all hR2 fun p1 H3 s3 h3 => ?_⟩
    rw [cut_to _ kk (by show kk ≤ 5; omega)] at h3
    refine ⟨_, rfl, by show 1 ≤ sizeLine; decide, fun u1 hu1 => cat_all (SqT.same (Same.new hu1 _) h3) (SqT.of upd_same) (Nat.le_of_lt (small1000 (by rw [List.length_take]; show _ + 1 ≤ _; omega))) (fun c1 H4 s4 hc1 => ?_)⟩
    have s34 := s3.trans ((Same.new hu1 (.tup [v'])).trans s4)
    refine ⟨_, rfl, _, rfl, _, _, rfl, rfl, ((kk + 1 : Nat) : Int), rfl, ?_⟩
    dsimp only [tNoPart]
    refine sl_all (SqT.same s34 hR2) fun p2 H5 s5 h5 => ?_
    rw [cut_fromN] at h5
    refine cat_all (SqT.same s5 hc1) h5 (Nat.le_of_lt (small1000 (by rw [List.length_append, List.length_take, List.length_drop]; show _ + 1 + (5 - _) ≤ _; omega))) (fun c2 H6 s6 hc6 => ?_)
    have s26 := (s34.trans s5).trans s6
    have s06 := s12.trans s26
    have hrow := hnew H6 c2 v' (setAt rk st2 r) s06 (Tn.same s26 hv') hc6
    -- the rows
    have hS6 := SqT.same s06 hS
    refine ⟨_, rfl, ?_⟩
    dsimp only [tNoPart]
    refine ⟨_, rfl, (k : Nat), rfl, sl_all hS6 fun p3 H7 s7 h7 => ?_⟩
    rw [cut_to _ k (by omega)] at h7
    refine ⟨_, rfl, by show 1 ≤ sizeLine; decide, fun u2 hu2 => cat_all (SqT.same (Same.new hu2 _) h7) (SqT.of upd_same) (Nat.le_of_lt (small1000 (by rw [List.length_take]; show _ + 1 ≤ _; omega))) (fun c3 H8 s8 hc3 => ?_)⟩
    have s78 := s7.trans ((Same.new hu2 (.tup [V.ref c2])).trans s8)
    refine ⟨_, rfl, _, rfl, _, _, rfl, rfl, ((k + 1 : Nat) : Int), rfl, ?_⟩
    dsimp only [tNoPart]
    refine sl_all (SqT.same s78 hS6) fun p4 H9 s9 h9 => ?_
    rw [cut_fromN] at h9
    refine cat_all (SqT.same s9 hc3) h9 (Nat.le_of_lt (small1000 (by rw [List.length_append, List.length_take, List.length_drop]; show _ + 1 + _ ≤ _; omega))) (fun c4 HA sA hcA => ?_)
    have s6A := (s78.trans s9).trans sA
    refine q (.ref c4) HA (s06.trans s6A) (.tup hcA ?_)
    rw [eset]
    exact tn_put (TnAll.keep (TK.of_same (s06.trans s6A)) hT) kl (Tn.same s6A hrow)
theorem ok_with (T : Tops w K mg) : ∀ k, FnOk P w K mg base CX0 k T.a_rows_with T.d_rows_with ["rows", "steps", "row"] (spRowsWith K k)
  | 0 => by
    have no : ∀ vs H Q E, ¬ spRowsWith K 0 vs H Q E := fun vs H Q E h => by
      obtain ⟨_, _, _, _, _, _, _, _, dep, _, _, _, _, _, _, _, h1, h2, _⟩ := h
      omega
    exact ⟨fun vs H Q E h => absurd h (no vs H Q E), fun A outer s H args us vs Q E _ _ _ _ h => absurd h (no vs H Q E)⟩
  | k + 1 => ok_with1 T (ok_with T k)
def spSlotsIn (K : PySem.W.Frag) (n : Nat) : Sp := fun vs H Q _ => ∃ (v : V) (rs : List Td.Row) (S : Sc) (dep : Nat), vs = [v] ∧ Tn K H v (.tuple (rowsD rs)) ∧ okRs S dep rs ∧ cnts rs ≤ 100 ∧ dep ≤ 4 ∧ 5 ≤ dep + n ∧ ∀ (l : Addr) H', Same H H' → H l = none → H' l = some (.lst ((slotsRs rs).map V.str)) → Q (.ref l) H'
theorem slot_at (T : Tops w K mg) {H : Hp} {r : Td.Row} {v : V} (h : Dp K H v (rowD r)) : ∃ (a : Addr) (zs : List V) (pl : Int), v = .ref a ∧ SqT K H a zs ∧ zs[0]? = some (.str (rowTag r)) ∧ KDct K w T.a_SLOT_PLACES (rowTag r) (.int pl) ∧ atI zs pl = some (.str (slotR r)) := by
  cases r with
  | rd pk c s =>
    obtain ⟨a, rfl, hS⟩ := rd_at h
    cases pk with
    | false => exact ⟨a, _, 2, rfl, hS, rfl, T.w_SLOT_PLACES_read, rfl⟩
    | true => exact ⟨a, _, 2, rfl, hS, rfl, T.w_SLOT_PLACES_peek, rfl⟩
  | put s c =>
    obtain ⟨a, rfl, hS⟩ := put_at h
    exact ⟨a, _, 1, rfl, hS, rfl, T.w_SLOT_PLACES_put, rfl⟩
  | give s =>
    obtain ⟨a, rfl, hS⟩ := give_at h
    exact ⟨a, _, 1, rfl, hS, rfl, T.w_SLOT_PLACES_give, rfl⟩
  | say s =>
    obtain ⟨a, rfl, hS⟩ := say_at h
    exact ⟨a, _, 1, rfl, hS, rfl, T.w_SLOT_PLACES_say, rfl⟩
  | wr c s =>
    obtain ⟨a, rfl, hS⟩ := wr_at h
    exact ⟨a, _, 2, rfl, hS, rfl, T.w_SLOT_PLACES_write, rfl⟩
  | ite s u y n =>
    obtain ⟨a, vy, vn, rfl, hS, _, _⟩ := ite_at h
    exact ⟨a, _, 1, rfl, hS, rfl, T.w_SLOT_PLACES_if, rfl⟩
theorem slots_take {rs : List Td.Row} {i : Nat} {r : Td.Row} (h : rs[i]? = some r) : slotsRs (rs.take (i + 1)) = slotsRs (rs.take i) ++ slotsR r := by
  rw [take_more h, slotsRs_append]
  simp [slotsRs]
theorem slots_flat {r : Td.Row} (h : isIte r = false) : slotsR r = [slotR r] := by
  cases r with
  | ite => cases h
  | _ => simp [slotsR, slotR]
theorem ok_slots1 (T : Tops w K mg) {n : Nat} (G_slots_in : FnOk P w K mg base CX0 n T.a_slots_in T.d_slots_in ["rows"] (spSlotsIn K n)) :
    FnOk P w K mg base CX0 (n + 1) T.a_slots_in T.d_slots_in ["rows"] (spSlotsIn K (n + 1)) := by
  refine T.F_slots_in.ok sc_slots_in (fun vs H Q E h => ?_) (fun cdv A outer s H vs Q E hr h => ?_)
  · obtain ⟨v, rs, S, dep, rfl, _⟩ := h
    rfl
  obtain ⟨v, rs, S, dep, rfl, hD, ok, hc, hdep, hn, q⟩ := h
  obtain ⟨va, xs, rfl, hS, hT⟩ := Tn.tup_inv hD
  have xl : xs.length = rs.length := by rw [hT.length, rowsD_length]
  refine ⟨_, (pss_cons (ps_set (i := 1) sc_slots_in.nd rfl (Or.inl rfl) (pe_lst pa_nil))
    (pss_cons (ps_for PassesOwn.never rfl (pi_tup (pv 0)) (pg_name (i := 2) sc_slots_in.nd rfl (Or.inl rfl)) (pss_cons (ps_expr (pe_bm PySem.F.plainAttrs_list PySem.F.slot_list_append PySem.F.type_list_append mt_append (pv 1) (pa_cons (pe_ix ix_tup (pv 2) (pe_ix ix_kdict (pe_glob (v := .ref T.a_SLOT_PLACES) rfl T.c_SLOT_PLACES rfl) (pe_ix ix_tup (pv 2) pe_int (fun _ _ => rfl)) (fun _ _ => rfl)) (fun _ _ => rfl)) pa_nil)))
    (pss_one (ps_if (pt_cmpR op_eq (pe_ix ix_tup (pv 2) pe_int (fun _ _ => rfl)) pe_str (nomark _)) (pss_one (ps_expr (pe_bm PySem.F.plainAttrs_list PySem.F.slot_list_extend PySem.F.type_list_extend mt_extend (pv 1) (pa_cons (pe_call G_slots_in (hr.mono (by omega)) rfl T.m_slots_in T.F_slots_in.kp T.b_slots_in .nil pass0 (pa_cons (pe_op op_catA (pe_ix ix_tup (pv 2) pe_int (fun _ _ => rfl)) (pe_ix ix_tup (pv 2) pe_int (fun _ _ => rfl))) pa_nil)) pa_nil)))) pss_nil))))
    (pss_one (ps_ret (pv 1))))), ?_⟩
  refine ⟨by show 0 ≤ sizeLine; decide, fun l hl => ?_⟩
  have s1 := Same.new hl (.lst [])
  refine ⟨_, rfl, va, rfl, ⟨_, SqT.same s1 hS⟩, for_tup (K := K) (a := va) (xs := xs)
    (fun i σ H' => ∃ v2 : Option V, σ = [some (.ref va), some (.ref l), v2] ∧ Same H H' ∧ H' l = some (.lst ((slotsRs (rs.take i)).map V.str)))
    ⟨none, rfl, s1, by rw [List.take_zero]; simp only [slotsRs]; exact upd_same⟩ (fun i σ H' _ ⟨_, _, z, _⟩ => SqT.same z hS) ?_ ?_⟩
  · rintro i x σ H1 hx ⟨v2, rfl, h1, hl1⟩
    have il : i < rs.length := by rw [← xl]; exact (List.getElem?_eq_some_iff.mp hx).1
    obtain ⟨r, hr2⟩ : ∃ r, rs[i]? = some r := ⟨_, List.getElem?_eq_getElem il⟩
    obtain ⟨d, hd1, hd2⟩ := TnAll.get hT hx
    rw [rowsD_get hr2] at hd1
    obtain rfl := Option.some.inj hd1
    obtain ⟨ra, zs, pl, rfl, hR, hz0, hK, hz⟩ := slot_at T (Tn.dp (Tn.same h1 hd2))
    have hcr := cnts_get hr2
    have stk := slots_take hr2
    have sl1 : (slotsRs (rs.take i)).length + Td.cnt r ≤ 100 := by
      rw [slotsRs_len]
      have := cnts_take hr2
      have h2 : cnts (rs.take (i + 1)) ≤ cnts rs := by
        have e : rs = rs.take (i + 1) ++ rs.drop (i + 1) := (List.take_append_drop _ _).symm
        conv => rhs; rw [e]
        rw [cnts_append]
        omega
      omega
    have cp := cnt_pos r
    refine ⟨_, rfl, .inl ⟨rfl, _, SqL.of hl1⟩, ?_⟩
    refine ⟨_, rfl, _, rfl, ra, _, 0, _, rfl, rfl, hR, atI_nat (j := 0) hz0, _, _, _, rfl, rfl, hK, ra, _, pl, _, rfl, rfl, hR, hz, ?_⟩
    refine ⟨l, _, _, rfl, rfl, hl1, small1000 (by rw [List.length_map]; omega), ?_⟩
    have h12 : Same H (upd H1 l (.lst ((slotsRs (rs.take i)).map V.str ++ [.str (slotR r)]))) := own_same h1 hl
    have el : upd H1 l (.lst ((slotsRs (rs.take i)).map V.str ++ [V.str (slotR r)])) l = some (.lst ((slotsRs (rs.take i)).map V.str ++ [.str (slotR r)])) := upd_same
    have tk : TK H1 (upd H1 l (.lst ((slotsRs (rs.take i)).map V.str ++ [.str (slotR r)]))) := TK.upd (by rw [hl1]; trivial)
    have hR2 := SqT.tk tk hR
    generalize upd H1 l (.lst ((slotsRs (rs.take i)).map V.str ++ [V.str (slotR r)])) = H2 at h12 el tk hR2
    refine ⟨_, rfl, ra, _, 0, _, rfl, rfl, hR2, atI_nat (j := 0) hz0, rfl, _, rfl, ?_⟩
    rw [tag_if]
    cases hi : isIte r with
    | false =>
      refine if_false_of rfl ⟨_, rfl, h12, ?_⟩
      rw [stk, slots_flat hi, List.map_append]
      exact el
    | true =>
      refine if_true_of rfl ?_
      obtain ⟨sl, u, y, nn, rfl⟩ : ∃ s u y n', r = .ite s u y n' := by
        cases r with
        | ite s u y n => exact ⟨s, u, y, n, rfl⟩
        | _ => cases hi
      obtain ⟨ra', vy, vn, er, hR3, hyD, hnD⟩ := ite_tn (Tn.same h12 hd2)
      cases er
      obtain ⟨ya, ys, rfl, hY, hYT⟩ := Tn.tup_inv hyD
      obtain ⟨na, ns, rfl, hN, hNT⟩ := Tn.tup_inv hnD
      have okr := okRs_get ok hr2
      unfold okR at okr
      have ec2 : Td.cnt (.ite sl u y nn) = 1 + cnts y + cnts nn := by unfold Td.cnt; rfl
      have yl : ys.length = y.length := by rw [hYT.length, rowsD_length]
      have nl : ns.length = nn.length := by rw [hNT.length, rowsD_length]
      have ly := len_cnts y
      have ln := len_cnts nn
      refine ⟨_, rfl, .inl ⟨rfl, _, SqL.of el⟩, ?_⟩
      refine ⟨_, rfl, ra, _, 3, _, rfl, rfl, hR3, rfl, _, rfl, ra, _, 4, _, rfl, rfl, hR3, rfl, cat_all hY hN (Nat.le_of_lt (small1000 (by omega))) fun c H3 s3 hc3 => ?_⟩
      have hTT : Tn K H3 (.ref c) (.tuple (rowsD (y ++ nn))) := .tup hc3 (by rw [rowsD_append]; exact TnAll.append (TnAll.keep (TK.of_same s3) hYT) (TnAll.keep (TK.of_same s3) hNT))
      refine ⟨_, y ++ nn, S, dep + 1, rfl, hTT, okRs_append okr.2.2.2.1 okr.2.2.2.2, by rw [cnts_append]; omega, by omega, by omega, fun l2 H4 s4 f4 hl4 => ?_⟩
      have el4 := s4 _ _ (s3 _ _ el)
      refine ⟨l, l2, _, _, rfl, rfl, el4, hl4, Nat.le_of_lt (small1000 (by rw [List.length_append, List.length_map, List.length_map, slotsRs_append, List.length_append, slotsRs_len y, slotsRs_len nn]; show _ + 1 + _ ≤ _; omega)), ?_⟩
      refine ⟨_, rfl, own_same ((h12.trans s3).trans s4) hl, ?_⟩
      rw [upd_same, stk]
      have e : slotsR (.ite sl u y nn) = sl :: (slotsRs y ++ slotsRs nn) := by simp only [slotsR]
      rw [e, List.map_append, slotsRs_append, List.append_assoc]
      rfl
  · rintro σ H1 ⟨v2, rfl, h1, hl1⟩
    rw [xl, List.take_length] at hl1
    exact ⟨_, rfl, q l H1 h1 hl hl1⟩
theorem ok_slots (T : Tops w K mg) : ∀ k, FnOk P w K mg base CX0 k T.a_slots_in T.d_slots_in ["rows"] (spSlotsIn K k)
  | 0 => by
    have no : ∀ vs H Q E, ¬ spSlotsIn K 0 vs H Q E := fun vs H Q E h => by
      obtain ⟨_, _, _, dep, _, _, _, _, h1, h2, _⟩ := h
      omega
    exact ⟨fun vs H Q E h => absurd h (no vs H Q E), fun A outer s H args us vs Q E _ _ _ _ h => absurd h (no vs H Q E)⟩
  | k + 1 => ok_slots1 T (ok_slots T k)
end
end K80
namespace K80
open PySem PySem.Spec PyProof.Rows L2 Td
def ownD (c : Bool × List Int) : PyData := .tuple [.str (chS c.1), .tuple (c.2.map PyData.int)]
theorem own_tn {K : PySem.W.Frag} {H : Hp} {v : V} {c : Bool × List Int} (h : Tn K H v (ownD c)) : ∃ t b, v = .ref t ∧ SqT K H t [.str (chS c.1), .ref b] ∧ SqT K H b (c.2.map V.int) := by
  obtain ⟨t, xs, rfl, hT, hX⟩ := Tn.tup_inv h
  cases hX with | cons a1 r => cases a1; cases r with | cons a2 r =>
    cases r
    obtain ⟨b, ys, rfl, hB, hY⟩ := Tn.tup_inv a2
    rw [ints_inv hY] at hB
    exact ⟨t, b, rfl, hT, hB⟩
def spChRows (K : PySem.W.Frag) : Sp := fun vs H Q _ => ∃ (v : V) (l : Addr) (cs : List V) (rs : List Td.Row) (own : List (Bool × List Int)) (S : Sc), vs = [v, .ref l] ∧ Tn K H v (.tuple (rowsD rs)) ∧ H l = some (.lst cs) ∧ TnAll K H cs (own.map ownD) ∧ okRs S 1 rs ∧ cnts rs ≤ 24 ∧ own.length ≤ 20 ∧ OwnOk rs own ∧ (S.eff = true ∨ ∀ c ∈ own, c.1 = false) ∧
  ∀ (x : V) H', Same H H' → Tn K H' x (.tuple (rowsD (chRows rs own))) → Q x H'
theorem early_snoc {rs : List Td.Row} {own : List (Bool × List Int)} {j : Nat} {c : Bool × List Int} (h : own[j]? = some c) : earlyCs rs (own.take (j + 1)) = if c.1 then earlyCs rs (own.take j) else earlyCs rs (own.take j) ++ [cellOf (rowAt rs c.2)] := by
  unfold earlyCs
  rw [take_more h, List.filter_append, List.map_append]
  cases hc : c.1 <;> simp [hc]
theorem behind_snoc {rs : List Td.Row} {own : List (Bool × List Int)} {j : Nat} {c : Bool × List Int} (h : own[j]? = some c) : behindRs rs (own.take (j + 1)) = behindF rs (behindRs rs (own.take j)) c := by
  unfold behindRs
  rw [take_more h, List.foldl_append]
  rfl
theorem earlyRs_snoc (F : Str) (cs : List Str) (c : Str) : earlyRs F (cs ++ [c]) = earlyRs F cs ++ [.rd false c F] := by unfold earlyRs; rw [List.map_append]; rfl
section
variable {P : Program} {w : World} {K : PySem.W.Frag} {mg : Str → Option Value} {base : Heap}
theorem ok_ch_rows (T : Tops w K mg) (G_slots_in : FnOk P w K mg base CX0 4 T.a_slots_in T.d_slots_in ["rows"] (spSlotsIn K 4))
    (G_row_behind : FnOk P w K mg base CX0 4 T.a_row_behind T.d_row_behind ["rows", "steps"] (spBehindR K 4))
    (G_rows_with : FnOk P w K mg base CX0 4 T.a_rows_with T.d_rows_with ["rows", "steps", "row"] (spRowsWith K 4)) :
    FnOk P w K mg base CX0 5 T.a_changed_rows T.d_changed_rows ["rows", "changes"] (spChRows K) := by
  refine T.F_changed_rows.ok sc_changed_rows (fun vs H Q E h => ?_) (fun cdv A outer s H vs Q E hr h => ?_)
  · obtain ⟨v, l, cs, rs, own, S, rfl, _⟩ := h
    rfl
  obtain ⟨v, l, cs, rs, own, S, rfl, hD, hl, hC, ok, hc, ho, hown, heff, q⟩ := h
  have cl : cs.length = own.length := by have := hC.length; rwa [List.length_map] at this
  refine ⟨_, (pss_cons (ps_set (i := 2) sc_changed_rows.nd rfl (Or.inr rfl) (pe_call G_slots_in (hr.mono (by omega)) rfl T.m_slots_in T.F_slots_in.kp T.b_slots_in .nil pass0 (pa_cons (pv 0) pa_nil)))
    (pss_cons (ps_set (i := 3) sc_changed_rows.nd rfl (Or.inl rfl) (pe_ix ix_list (pe_lc (own := [(("letter" : Str), 11)]) (wi := (iStr (tC (.str "abcdefghijklmnopqrstuvwxyz")))) (g := gName 11) (tt := (tTest (tOp (rIn K true) (tVar 11) (tVar 2)))) (te := (tVar 11)) rfl sc_changed_rows.nd (pi_str (pe_glob (v := .str "abcdefghijklmnopqrstuvwxyz") rfl T.c_LETTERS ⟨_, rfl⟩)) (blkOk_by (own := [(("letter" : Str), 11)]) (N := N_changed_rows) (sc := defScope s_changed_rows) (by decide +kernel)) (fun _ _ _ _ _ => (pg_name (i := 11) sc_changed_rows.nd rfl (Or.inl rfl))) (fun _ _ _ _ _ => (pts_one (pt_cmpR op_notIn_seq (pv 11) (pv 2) (by rfl)))) (fun _ _ _ _ _ => (pv 11))) pe_int (fun _ _ => rfl)))
    (pss_cons (ps_set (i := 4) sc_changed_rows.nd rfl (Or.inl rfl) (pe_tup pa_nil))
    (pss_cons (ps_set (i := 5) sc_changed_rows.nd rfl (Or.inl rfl) (pv 0))
    (pss_cons (ps_for PassesOwn.never rfl (pi_list (pv 1)) (pg_tup rfl (pgs_cons (pg_name (i := 6) sc_changed_rows.nd rfl (Or.inl rfl)) (pgs_cons (pg_name (i := 7) sc_changed_rows.nd rfl (Or.inl rfl)) pgs_nil))) (pss_cons (ps_asg (pe_call G_row_behind (hr.mono (by omega)) rfl T.m_row_behind T.F_row_behind.kp T.b_row_behind .nil pass0 (pa_cons (pv 0) (pa_cons (pv 7) pa_nil))) (pg_tup rfl (pgs_cons (pg_name (i := 8) sc_changed_rows.nd rfl (Or.inl rfl)) (pgs_cons (pg_name (i := 9) sc_changed_rows.nd rfl (Or.inl rfl)) (pgs_cons (pg_name (i := 10) sc_changed_rows.nd rfl (Or.inl rfl)) pgs_nil)))))
    (pss_one (ps_if (pt_cmpR op_eq (pv 6) pe_str (nomark _)) (pss_one (ps_set (i := 4) sc_changed_rows.nd rfl (Or.inl rfl) (pe_op op_catA (pv 4) (pe_tup (pa_cons (pe_tup (pa_cons pe_str (pa_cons (pv 9) (pa_cons (pv 3) pa_nil)))) pa_nil))))) (pss_one (ps_set (i := 5) sc_changed_rows.nd rfl (Or.inl rfl) (pe_call G_rows_with (hr.mono (by omega)) rfl T.m_rows_with T.F_rows_with.kp T.b_rows_with .nil pass0 (pa_cons (pv 5) (pa_cons (pv 7) (pa_cons (pe_tup (pa_cons pe_str (pa_cons (pv 9) (pa_cons (pv 10) pa_nil)))) pa_nil))))))))))
    (pss_one (ps_ret (pe_op op_catA (pv 4) (pv 5))))))))), ?_⟩
  refine ⟨_, rfl, v, rs, S, 1, rfl, hD, ok, by omega, by decide, by decide, fun l1 H1 s1 n1 hl1 => ?_⟩
  refine ⟨ab26, rfl, fun D hD0 => lc_str (z := ab26) (fun i H' => Same H1 H' ∧ H' D = some (.lst ((freshG (slotsRs rs) i).map V.str))) ⟨Same.new hD0 _, upd_same⟩ ?_ ?_⟩
  · rintro i c H' hc ⟨hs, hb⟩
    have i26 : i < 26 := (Array.getElem?_eq_some_iff.mp hc).1
    have ec : c = 97 + i := by
      have := ab_at i i26
      rw [Array.getElem?_toList, hc] at this
      exact Option.some.inj this
    subst ec
    refine ⟨rfl, ?_⟩
    refine ⟨_, rfl, _, rfl, l1, _, rfl, .inl (SqL.of (hs _ _ hl1)), rfl, L2.flat_strs _, _, rfl, ?_⟩
    have fl := freshG_len (slotsRs rs) i
    by_cases hz : letA i ∈ slotsRs rs
    · refine if_false_of (by show (!inV (.str (letA i)) ((slotsRs rs).map V.str)) = false; rw [inV_strs, decide_eq_true hz]; rfl) ⟨hs, ?_⟩
      rw [freshG_more, if_pos hz]
      exact hb
    · refine if_true_of (by show (!inV (.str (letA i)) ((slotsRs rs).map V.str)) = true; rw [inV_strs, decide_eq_false hz]; rfl) ?_
      refine ⟨_, rfl, _, hb, small1000 (by rw [List.length_map]; omega), own_same hs hD0, ?_⟩
      rw [upd_same, freshG_more, if_neg hz, List.map_append]
      rfl
  rintro H2 ⟨s2, hb⟩
  obtain ⟨k0, k26, kn, ehd, r0, ef⟩ := free_some (ns := slotsRs rs) (by rw [slotsRs_len]; omega)
  have eF : freeOf rs = letA k0 := ehd
  have hb' : H2 D = some (.lst ((letA k0 :: r0).map V.str)) := by rw [← ef]; exact hb
  have s02 := s1.trans s2
  refine ⟨D, _, 0, _, rfl, rfl, SqL.of hb', (show atI ((letA k0 :: r0).map V.str) 0 = some (V.str (letA k0)) from atI_nat (j := 0) rfl), ?_⟩
  rw [← eF]
  refine ⟨by show 0 ≤ sizeLine; decide, fun t0 ht0 => ?_⟩
  have s3 := Same.new ht0 (.tup [])
  have e3 : upd H2 t0 (.tup []) t0 = some (.tup []) := upd_same
  have s03 := s02.trans s3
  try dsimp only
  generalize upd H2 t0 (.tup []) = H3 at s3 e3 s03
  refine ⟨_, rfl, ?_⟩
  have erl : rs.length ≤ cnts rs := len_cnts rs
  have pk : ∀ j, pkRs rs (behindRs rs (own.take j)) := fun j => behind_pk _ _ (fun c h => hown c (List.take_subset _ _ h)) (pkRs_refl rs)
  refine ⟨_, rfl, l, rfl, ⟨_, SqL.of (s03 _ _ hl)⟩, for_list (K := K) (a := l) (xs := cs)
    (fun j σ H' => ∃ (ea : Addr) (es : List V) (bv : V) (v6 v7 v8 v9 v10 : Option V), σ = [some v, some (.ref l), some (.ref l1), some (.str (freeOf rs)), some (.ref ea), some bv, v6, v7, v8, v9, v10, none] ∧ Same H H' ∧ SqT K H' ea es ∧ TnAll K H' es (rowsD (earlyRs (freeOf rs) (earlyCs rs (own.take j)))) ∧ Tn K H' bv (.tuple (rowsD (behindRs rs (own.take j)))))
    ⟨t0, [], v, none, none, none, none, none, rfl, s03, SqT.of e3, by rw [List.take_zero]; simp only [earlyCs, List.filter_nil, List.map_nil, earlyRs, rowsD]; exact .nil, by rw [List.take_zero]; exact Tn.same s03 hD⟩ (fun j σ H' _ ⟨_, _, _, _, _, _, _, _, _, z, _⟩ => SqL.of (z _ _ hl)) ?_ ?_⟩
  · rintro j x σ H4 hx ⟨ea, es, bv, v6, v7, v8, v9, v10, rfl, s4, hE, hET, hBv⟩
    have jl : j < own.length := by rw [← cl]; exact (List.getElem?_eq_some_iff.mp hx).1
    obtain ⟨c, hc2⟩ : ∃ c, own[j]? = some c := ⟨_, List.getElem?_eq_getElem jl⟩
    obtain ⟨d, hd1, hd2⟩ := TnAll.get hC hx
    rw [List.getElem?_map, hc2] at hd1
    obtain rfl := Option.some.inj hd1
    obtain ⟨t, b, rfl, hT, hB⟩ := own_tn hd2
    obtain ⟨xc, xs', hrow⟩ := hown c (List.mem_of_getElem? hc2)
    have el : es.length ≤ 20 := by
      rw [hET.length, rowsD_length]
      unfold earlyRs earlyCs
      rw [List.length_map, List.length_map]
      exact Nat.le_trans (List.length_filter_le ..) (by rw [List.length_take]; omega)
    refine ⟨t, _, rfl, SqT.same s4 hT, rfl, _, _, rfl, _, _, rfl, rfl, ?_⟩
    refine ⟨_, rfl, _, rfl, v, b, rs, c.2, S, 1, rfl, Tn.same s4 hD, SqT.same s4 hB, ok, by omega, by omega, by decide, by decide, fun H' s' z => ?_, fun rv r H5 s5 z hrv => ?_⟩
    · rw [hrow] at z; cases z
    rw [hrow] at z
    cases z
    obtain ⟨ra, rfl, hR'⟩ := rd_tn hrv
    have hR : SqT K H5 ra [.str "read", .str xc, .str xs'] := hR'
    have s45 := s4.trans s5
    refine ⟨ra, _, rfl, hR, rfl, _, _, rfl, _, _, rfl, _, _, rfl, rfl, ?_⟩
    have esn := early_snoc (rs := rs) hc2
    have bsn := behind_snoc (rs := rs) hc2
    cases ec : c.1 with
    | false =>
      refine ⟨_, rfl, rfl, _, rfl, if_true_of (by decide +kernel) ?_⟩
      rw [ec, if_neg Bool.false_ne_true, hrow] at esn
      have bsn' : behindRs rs (own.take (j + 1)) = behindRs rs (own.take j) := by rw [bsn]; unfold behindF; rw [ec, if_neg Bool.false_ne_true]
      refine ⟨_, rfl, _, rfl, _, rfl, by show 3 ≤ sizeLine; decide, fun u1 hu1 => ⟨by show 1 ≤ sizeLine; decide, fun u2 hu2 => ?_⟩⟩
      have z1 := Same.new hu1 (.tup [V.str "read", .str xc, .str (freeOf rs)])
      have z2 := Same.new hu2 (.tup [V.ref u1])
      refine cat_all (SqT.same ((s5.trans z1).trans z2) hE) (SqT.of upd_same) (Nat.le_of_lt (small1000 (by show _ + 1 ≤ _; omega))) (fun c2 H8 s8 hc8 => ?_)
      have s58 := ((s5.trans z1).trans z2).trans s8
      have hu1' := s8 _ _ (z2 _ _ (upd_same (H := H5) (a := u1) (o := .tup [V.str "read", .str xc, .str (freeOf rs)])))
      refine ⟨c2, _, bv, _, _, _, _, _, rfl, s4.trans s58, hc8, ?_, ?_⟩
      · rw [esn, earlyRs_snoc, rowsD_append]
        refine TnAll.append (TnAll.keep (TK.of_same s58) hET) ?_
        show TnAll K H8 [V.ref u1] (rowsD [.rd false xc (freeOf rs)])
        unfold rowsD rowD rowsD
        exact .cons (.tup (SqT.of hu1') (.cons (.str _) (.cons (.str _) (.cons (.str _) .nil)))) .nil
      · rw [bsn']; exact Tn.same s58 hBv
    | true =>
      refine ⟨_, rfl, rfl, _, rfl, if_false_of (by decide +kernel) ?_⟩
      rw [ec, if_pos rfl] at esn
      have he : S.eff = true := heff.elim id fun h => by have := h c (List.mem_of_getElem? hc2); rw [ec] at this; cases this
      have bsn' : behindRs rs (own.take (j + 1)) = setAt (behindRs rs (own.take j)) c.2 (.rd true xc xs') := by rw [bsn]; unfold behindF; rw [ec, if_pos rfl, hrow]; rfl
      obtain ⟨r0, hr0, _⟩ := pkRs_at c.2 (pk j) hrow
      refine ⟨_, rfl, _, rfl, _, rfl, _, rfl, by show 3 ≤ sizeLine; decide, fun u1 hu1 => ?_⟩
      have z1 := Same.new hu1 (.tup [V.str "peek", .str xc, .str xs'])
      have hX : Tn K (upd H5 u1 (.tup [V.str "peek", .str xc, .str xs'])) (.ref u1) (rowD (.rd true xc xs')) := by
        unfold rowD
        exact .tup (SqT.of upd_same) (.cons (.str _) (.cons (.str _) (.cons (.str _) .nil)))
      refine ⟨bv, b, .ref u1, behindRs rs (own.take j), c.2, r0, .rd true xc xs', S, 1, rfl, Tn.same (s5.trans z1) hBv, SqT.same (s45.trans z1) hB, hX, hr0, pk_okEs he (pk j) ok, by rw [pk_cnts (pk j)]; omega, by decide, by decide, fun v' H8 s8 hv' => ?_⟩
      have s58 := (s5.trans z1).trans s8
      refine ⟨ea, es, v', _, _, _, _, _, rfl, s4.trans s58, SqT.same s58 hE, ?_, ?_⟩
      · rw [esn]; exact TnAll.keep (TK.of_same s58) hET
      · rw [bsn']; exact hv'
  · rintro σ H4 ⟨ea, es, bv, v6, v7, v8, v9, v10, rfl, s4, hE, hET, hBv⟩
    rw [cl, List.take_length] at hET hBv
    obtain ⟨ba, bs, rfl, hBa, hBT⟩ := Tn.tup_inv hBv
    have el : es.length ≤ 20 := by
      rw [hET.length, rowsD_length]
      unfold earlyRs earlyCs
      rw [List.length_map, List.length_map]
      exact Nat.le_trans (List.length_filter_le ..) ho
    have bl : bs.length ≤ 24 := by
      have h1 := pkRs_len (pk own.length)
      rw [List.take_length] at h1
      rw [hBT.length, rowsD_length, h1]
      omega
    refine ⟨_, rfl, _, rfl, cat_all hE hBa (Nat.le_of_lt (small1000 (by omega))) fun c H5 s5 hc5 => ?_⟩
    refine q _ H5 (s4.trans s5) (.tup hc5 ?_)
    unfold chRows
    rw [rowsD_append]
    exact TnAll.append (TnAll.keep (TK.of_same s5) hET) (TnAll.keep (TK.of_same s5) hBT)
end
end K80
namespace K80
open PySem PySem.Spec PyProof.Rows L2 Td
theorem chg_tn {K : PySem.W.Frag} {H : Hp} {v : V} {c : Bool × Way} (h : Tn K H v (chgD c)) : ∃ t b, v = .ref t ∧ SqT K H t [.str (chS c.1), .ref b] ∧ SqT K H b c.2.vs := by
  obtain ⟨t, xs, rfl, hT, hX⟩ := Tn.tup_inv h
  cases hX with | cons a1 r => cases a1; cases r with | cons a2 r =>
    cases r
    obtain ⟨b, rfl, hB⟩ := Way.inv a2
    exact ⟨t, b, rfl, hT, hB⟩
theorem kdW_inj {a b : Bool} (h : kdW a = kdW b) : a = b := by
  cases a <;> cases b <;> first | rfl | (exact absurd h (by decide +kernel))
theorem head_eq (c : Way) (e : Bool) (i : Nat) : PyData.eqv (.tuple [.str (kdW c.e), .int (c.i : Nat)]) (.tuple [.str (kdW e), .int (i : Nat)]) = (decide (c.e = e) && decide (c.i = i)) := by
  rw [Bool.eq_iff_iff]
  simp only [PyData.eqv, PyData.eqvAll, Bool.and_true, Bool.and_eq_true, beq_iff_eq, decide_eq_true_eq]
  exact ⟨fun h => ⟨kdW_inj h.1, Int.ofNat_inj.mp h.2⟩, fun h => ⟨by rw [h.1], by rw [h.2]⟩⟩
theorem head_shaped (c : Bool) (i : Nat) : SeqAt.shaped (.tuple [.str (kdW c), .int (i : Nat)]) = true := by
  have h : (PyData.str (kdW c)).canLay0 = true := by cases c <;> decide +kernel
  have h2 : (PyData.tuple [.str (kdW c), .int (i : Nat)]).canLay0 = true := by
    show ((PyData.str (kdW c)).canLay0 && _) = true
    rw [h]
    rfl
  unfold SeqAt.shaped
  rw [h2, Bool.true_and]
  exact decide_eq_true (by simp [PyData.depth, PyData.depthAll])
theorem rwsTn {α : Type} {K : PySem.W.Frag} {H : Hp} {D : α → PyData} : ∀ (L : List α) (zs : List V), Rws (fun H v (x : α) => Tn K H v (D x)) H zs L → TnAll K H zs (L.map D)
  | [], zs, h => by
    have e := h.len
    rw [List.eq_nil_of_length_eq_zero e]
    exact .nil
  | x :: L, zs, h => by
    cases zs with
    | nil => have e := h.len; simp at e
    | cons y zs =>
      obtain ⟨v, hv, hx⟩ := h.get 0 x rfl
      cases (show some y = some v from hv)
      exact .cons hx (rwsTn L zs ⟨by have e := h.len; simpa using e, fun i z e => h.get (i + 1) z (by simpa using e)⟩)
structure BodOk (L : List (Bool × Way)) (e : Bool) (i : Nat) (q : Str × List Td.Row) (S : Sc) : Prop where
  ok : okRs S 1 q.2
  c : cnts q.2 ≤ 24
  own : OwnOk q.2 (ownC L e i)
  eff : S.eff = true ∨ ∀ c ∈ ownC L e i, c.1 = false
def spChBod (K : PySem.W.Frag) : Sp := fun vs H Q _ => ∃ (v : V) (l : Addr) (cs : List V) (e : Bool) (L : List (Bool × Way)) (ps : List (Str × List Td.Row)), vs = [.str (kdW e), v, .ref l] ∧ Tn K H v (pairsD ps) ∧ H l = some (.lst cs) ∧ TnAll K H cs (L.map chgD) ∧ L.length ≤ 20 ∧ ps.length ≤ 10 ∧ (∀ (i : Nat) (q : Str × List Td.Row), ps[i]? = some q → ∃ S, BodOk L e i q S) ∧
  ∀ (x : V) H', Same H H' → Tn K H' x (pairsD (chBodies L e ps)) → Q x H'
theorem chB_at {L : List (Bool × Way)} {e : Bool} {ps : List (Str × List Td.Row)} {i : Nat} {q : Str × List Td.Row} (h : ps[i]? = some q) : (chBodies L e ps)[i]? = some (q.1, chRows q.2 (ownC L e i)) := by
  unfold chBodies
  rw [List.getElem?_mapIdx, h]
  rfl
section
variable {P : Program} {w : World} {K : PySem.W.Frag} {mg : Str → Option Value} {base : Heap}
theorem ok_ch_bodies (T : Tops w K mg) (G_changed_rows : FnOk P w K mg base CX0 5 T.a_changed_rows T.d_changed_rows ["rows", "changes"] (spChRows K)) :
    FnOk P w K mg base CX0 6 T.a_changed_bodies T.d_changed_bodies ["kind", "pairs", "changes"] (spChBod K) := by
  refine T.F_changed_bodies.ok sc_changed_bodies (fun vs H Q E h => ?_) (fun cdv A outer s H vs Q E hr h => ?_)
  · obtain ⟨v, l, cs, e, L, ps, rfl, _⟩ := h
    rfl
  obtain ⟨v, l, cs, e, L, ps, rfl, hD, hl, hC, hL, hps, hbod, q⟩ := h
  have cl : cs.length = L.length := by have := hC.length; rwa [List.length_map] at this
  obtain ⟨va, xs, rfl, hS, hT⟩ := Tn.tup_inv hD
  have xl : xs.length = ps.length := by have := hT.length; rwa [List.length_map] at this
  have cbl : (chBodies L e ps).length = ps.length := by unfold chBodies; rw [List.length_mapIdx]
  refine ⟨_, (pss_cons (ps_set (i := 3) sc_changed_bodies.nd rfl (Or.inl rfl) (pe_lst pa_nil))
    (pss_cons (ps_for PassesOwn.never rfl (pi_enumT rfl T.z_enumerate (pa_cons (pv 1) pa_nil)) (pg_tup rfl (pgs_cons (pg_name (i := 4) sc_changed_bodies.nd rfl (Or.inr rfl)) (pgs_cons (pg_tup rfl (pgs_cons (pg_name (i := 5) sc_changed_bodies.nd rfl (Or.inl rfl)) (pgs_cons (pg_name (i := 6) sc_changed_bodies.nd rfl (Or.inl rfl)) pgs_nil))) pgs_nil))) (pss_cons (ps_setLc (i := 7) (own := [(("word" : Str), 8), (("path" : Str), 9)]) (wi := (iList K (tVar 2))) (g := gTup K 2 (gCons (gName 8) (gCons (gName 9) gNil))) (tt := (tTest (tOp (rEqD K) (tSl (rSlA K) (tVar 9) tNoPart (tPart (tC (.int 2)))) (tTup (tCons (tVar 0) (tCons (tVar 4) tNil)))))) (te := (tTup (tCons (tVar 8) (tCons (tSl (rSlA K) (tVar 9) (tPart (tC (.int 2))) tNoPart) tNil)))) rfl sc_changed_bodies.nd rfl rfl (sw_true rfl rfl rfl (by decide +kernel)) (pi_list (pv 2)) (blkOk_by (own := [(("word" : Str), 8), (("path" : Str), 9)]) (N := N_changed_bodies) (sc := defScope s_changed_bodies) (by decide +kernel)) (fun _ _ _ _ _ => (pg_tup rfl (pgs_cons (pg_name (i := 8) sc_changed_bodies.nd rfl (Or.inl rfl)) (pgs_cons (pg_name (i := 9) sc_changed_bodies.nd rfl (Or.inl rfl)) pgs_nil)))) (fun _ _ _ _ _ => (pts_one (pt_cmpR (op_eqD hr.units) (pe_slice sl_tupA (pv 9) po_none (po_some pe_int)) (pe_tup (pa_cons (pv 0) (pa_cons (pv 4) pa_nil))) (nomark _)))) (fun _ _ _ _ _ => (pe_tup (pa_cons (pv 8) (pa_cons (pe_slice sl_tupA (pv 9) (po_some pe_int) po_none) pa_nil)))))
    (pss_one (ps_expr (pe_bm PySem.F.plainAttrs_list PySem.F.slot_list_append PySem.F.type_list_append mt_append (pv 3) (pa_cons (pe_tup (pa_cons (pv 5) (pa_cons (pe_call G_changed_rows (hr.mono (by omega)) rfl T.m_changed_rows T.F_changed_rows.kp T.b_changed_rows .nil pass0 (pa_cons (pv 6) (pa_cons (pv 7) pa_nil))) pa_nil))) pa_nil))))))
    (pss_one (ps_ret (pe_callTy (T := "tuple") call_tuple_of rfl T.z_tuple (by decide +kernel) (pa_cons (pv 3) pa_nil)))))), ?_⟩
  refine ⟨by show 0 ≤ sizeLine; decide, fun bl hbl => ?_⟩
  have s1 := Same.new hbl (.lst [])
  refine ⟨_, rfl, va, _, rfl, SqT.same s1 hS, for_enumT (K := K) (a := va) (xs := xs) (fun i σ H' => ∃ (v4 v5 v6 v7 : Option V) (zs : List V), σ = [some (.str (kdW e)), some (.ref va), some (.ref l), some (.ref bl), v4, v5, v6, v7, none, none] ∧ Same H H' ∧ H' bl = some (.lst zs) ∧ TnAll K H' zs (((chBodies L e ps).take i).map Td.pairD))
    ⟨none, none, none, none, [], rfl, s1, upd_same, by rw [List.take_zero]; exact .nil⟩ (fun i σ H' _ ⟨_, _, _, _, _, _, z, _⟩ => SqT.same z hS) ?_ ?_⟩
  · rintro i x σ H1 t hx ⟨v4, v5, v6, v7, zs, rfl, h1, hz, hzT⟩ ht
    have il : i < ps.length := by rw [← xl]; exact (List.getElem?_eq_some_iff.mp hx).1
    obtain ⟨r, b, vr, hr2, rfl, hB, hvr⟩ := pair_get hT hx
    obtain ⟨S, bo⟩ := hbod i r hr2
    have s2 := Same.new ht (.tup [.int (i : Nat), .ref b])
    have h12 := h1.trans s2
    have hz2 := s2 _ _ hz
    have hzT2 := TnAll.keep (TK.of_same s2) hzT
    have ht2 : upd H1 t (.tup [.int (i : Nat), .ref b]) t = some (.tup [.int (i : Nat), .ref b]) := upd_same
    refine ⟨t, _, rfl, SqT.of ht2, rfl, _, _, rfl, _, _, rfl, ?_⟩
    refine ⟨b, _, rfl, SqT.same h12 hB, rfl, _, _, rfl, _, _, rfl, rfl, rfl, ?_⟩
    generalize upd H1 t (.tup [.int (i : Nat), V.ref b]) = H2 at h12 hz2 hzT2
    have hl2 := h12 _ _ hl
    refine ⟨_, rfl, l, rfl, ⟨_, SqL.of hl2⟩, fun D hD2 => buS_list (cs.zip L) Prod.fst (fun c => decide (c.2.2.e = e) && decide (c.2.2.i = i)) (fun H v c => Tn K H v (ownD (c.2.1, c.2.2.st))) (fun k h => Tn.keep k h) (SqL.of hl2) (zip_fstB cl) (by rw [List.length_zip]; omega) hD2 ?_ ?_⟩
    · rintro j c H' hc hs Yes No yes no
      obtain ⟨q1, q2⟩ := zip_atB hc
      obtain ⟨d, hd1, hd2⟩ := TnAll.get hC q1
      rw [List.getElem?_map, q2] at hd1
      obtain rfl := Option.some.inj hd1
      obtain ⟨tc, wb, e1, hTc, hWb⟩ := chg_tn hd2
      have s02 := h12.trans hs
      show gTup _ _ _ c.1 _ _ _
      rw [e1]
      refine ⟨tc, _, rfl, SqT.same s02 hTc, rfl, _, _, rfl, _, _, rfl, rfl, rfl, ?_⟩
      have hWb2 := SqT.same s02 hWb
      refine ⟨_, rfl, ?_⟩
      dsimp only [tNoPart]
      refine ⟨2, rfl, sl_all hWb2 fun p1 H3 s3 h3 => ?_⟩
      rw [show cutV c.2.2.vs none (some (2 : Int)) = c.2.2.vs.take 2 from cut_to _ 2 (by unfold Way.vs; simp)] at h3
      refine ⟨_, rfl, _, rfl, by show 2 ≤ sizeLine; decide, fun t3 ht3 => ?_⟩
      have z3 := Same.new ht3 (.tup [V.str (kdW e), .int (i : Nat)])
      refine ⟨.tuple [.str (kdW c.2.2.e), .int (c.2.2.i : Nat)], .tuple [.str (kdW e), .int (i : Nat)], .tup (SqT.same z3 h3) (.cons (.str _) (.cons (.int _) .nil)), .tup (SqT.of upd_same) (.cons (.str _) (.cons (.int _) .nil)), head_shaped _ _, head_shaped _ _, _, rfl, ?_⟩
      rw [head_eq]
      refine if_known (fun h => ?_) (fun h => ?_)
      · refine ⟨_, rfl, _, rfl, 2, rfl, ?_⟩
        dsimp only [tNoPart]
        refine sl_all (SqT.same (s3.trans z3) hWb2) fun p2 H4 s4 h4 => ?_
        rw [show cutV c.2.2.vs (some (2 : Int)) none = c.2.2.vs.drop 2 from cut_fromN _ 2] at h4
        refine ⟨by show 2 ≤ sizeLine; decide, fun t5 ht5 => ?_⟩
        have z5 := Same.new ht5 (.tup [V.str (chS c.2.1), .ref p2])
        exact yes h _ _ ((s3.trans z3).trans (s4.trans z5)) (.tup (SqT.of upd_same) (.cons (.str _) (.cons (.tup (SqT.same z5 h4) (ints_tn _)) .nil)))
      · exact no h _ (s3.trans z3)
    rintro H3 ys s3 hD3 hY
    have hY' := rwsTn _ _ hY
    have eo : (((cs.zip L).filter fun c => decide (c.2.2.e = e) && decide (c.2.2.i = i)).map fun c => ownD (c.2.1, c.2.2.st)) = (ownC L e i).map ownD := by
      unfold ownC
      have e1 : L = (cs.zip L).map Prod.snd := (List.map_snd_zip (by omega)).symm
      conv => rhs; rw [e1]
      rw [List.filter_map, List.map_map, List.map_map]
      rfl
    rw [eo] at hY'
    have h13 := h12.trans s3
    have hz3 := s3 _ _ hz2
    have zl : zs.length ≤ 10 := by
      have := hzT.length
      rw [List.length_map, List.length_take] at this
      omega
    refine ⟨_, rfl, .inl ⟨rfl, _, SqL.of hz3⟩, ?_⟩
    refine ⟨_, rfl, _, rfl, _, rfl, vr, D, ys, r.2, ownC L e i, S, rfl, Tn.same h13 hvr, hD3, hY', bo.ok, bo.c, Nat.le_trans (ownC_len ..) hL, bo.own, bo.eff, fun x H4 s4 hx4 => ⟨by show 2 ≤ sizeLine; decide, fun t6 ht6 => ?_⟩⟩
    have z6 := Same.new ht6 (.tup [V.str r.1, x])
    have hz6 := z6 _ _ (s4 _ _ hz3)
    have hp6 : Tn K (upd H4 t6 (.tup [V.str r.1, x])) (.ref t6) (Td.pairD (r.1, chRows r.2 (ownC L e i))) := .tup (SqT.of upd_same) (.cons (.str _) (.cons (Tn.same z6 hx4) .nil))
    have h16 := h13.trans (s4.trans z6)
    have hzT6 := TnAll.keep (TK.of_same (s3.trans (s4.trans z6))) hzT2
    refine ⟨bl, zs, _, rfl, rfl, hz6, small1000 (by omega), ?_⟩
    have tk6 : TK (upd H4 t6 (.tup [V.str r.1, x])) (upd (upd H4 t6 (.tup [V.str r.1, x])) bl (.lst (zs ++ [.ref t6]))) := TK.upd (by rw [hz6]; trivial)
    refine ⟨_, _, _, _, zs ++ [.ref t6], rfl, own_same h16 hbl, upd_same, ?_⟩
    rw [take_more (chB_at hr2), List.map_append]
    exact TnAll.append (TnAll.keep tk6 hzT6) (.cons (Tn.keep tk6 hp6) .nil)
  · rintro σ H1 ⟨v4, v5, v6, v7, zs, rfl, h1, hz, hzT⟩
    rw [xl, ← cbl, List.take_length] at hzT
    refine ⟨_, rfl, bl, _, rfl, .inl ⟨SqL.of hz, fun t ht => ?_⟩⟩
    have z := Same.new ht (.tup zs)
    exact q _ _ (h1.trans z) (.tup (SqT.of upd_same) (TnAll.keep (TK.of_same z) hzT))
end
end K80
namespace K80
open PySem PySem.Spec PyProof.Rows L2 Td
theorem ints_lay : ∀ st : List Int, PyData.canLayAll0 (st.map PyData.int) = true ∧ PyData.depthAll (st.map PyData.int) ≤ 1
  | [] => ⟨rfl, by simp [PyData.depthAll]⟩
  | i :: st => by
    obtain ⟨a, b⟩ := ints_lay st
    refine ⟨?_, ?_⟩
    · show ((PyData.int i).canLay0 && PyData.canLayAll0 (st.map PyData.int)) = true
      rw [a]; rfl
    · rw [List.map_cons]
      have : (PyData.int i).depth ≤ 1 := by simp [PyData.depth]
      simp only [PyData.depthAll]; omega
theorem way_lay (a : Way) : a.data.canLay0 = true ∧ a.data.depth ≤ 3 := by
  obtain ⟨h1, h2⟩ := ints_lay a.st
  have h : (PyData.str (kdW a.e)).canLay0 = true := by cases a.e <;> decide +kernel
  refine ⟨?_, ?_⟩
  · show ((PyData.str (kdW a.e)).canLay0 && (true && PyData.canLayAll0 (a.st.map PyData.int))) = true
    rw [h, h1]; rfl
  · unfold Way.data Way.ds
    simp only [PyData.depth, PyData.depthAll]
    omega
theorem chg_lay (c : Bool × Way) : (chgD c).canLay0 = true ∧ (chgD c).depth ≤ 5 := by
  obtain ⟨h1, h2⟩ := way_lay c.2
  have h : (PyData.str (chS c.1)).canLay0 = true := by cases c.1 <;> decide +kernel
  refine ⟨?_, ?_⟩
  · show ((PyData.str (chS c.1)).canLay0 && (c.2.data.canLay0 && true)) = true
    rw [h, h1]; rfl
  · unfold chgD
    simp only [PyData.depth, PyData.depthAll]
    omega
theorem chg_shaped (c : Bool × Way) : SeqAt.shaped (chgD c) = true := by
  obtain ⟨h1, h2⟩ := chg_lay c
  unfold SeqAt.shaped
  rw [h1, Bool.true_and]
  exact decide_eq_true (by omega)
theorem chgs_lay : ∀ L : List (Bool × Way), PyData.canLayAll0 (L.map chgD) = true ∧ PyData.depthAll (L.map chgD) ≤ 5
  | [] => ⟨rfl, by simp [PyData.depthAll]⟩
  | c :: L => by
    obtain ⟨a, b⟩ := chgs_lay L
    obtain ⟨h1, h2⟩ := chg_lay c
    refine ⟨?_, ?_⟩
    · show ((chgD c).canLay0 && PyData.canLayAll0 (L.map chgD)) = true
      rw [a, h1]; rfl
    · rw [List.map_cons]
      simp only [PyData.depthAll]; omega
theorem chgs_shaped (L : List (Bool × Way)) : SeqAt.shaped (.list (L.map chgD)) = true := by
  obtain ⟨h1, h2⟩ := chgs_lay L
  unfold SeqAt.shaped
  simp only [PyData.canLay0, PyData.depth, h1, Bool.true_and]
  exact decide_eq_true (by omega)
theorem ints_inj : ∀ {a b : List Int}, PyData.eqvAll (a.map PyData.int) (b.map PyData.int) = true → a = b
  | [], [], _ => rfl
  | [], _ :: _, h => by cases h
  | _ :: _, [], h => by cases h
  | x :: a, y :: b, h => by
    rw [List.map_cons, List.map_cons] at h
    simp only [PyData.eqvAll, PyData.eqv, Bool.and_eq_true, beq_iff_eq] at h
    rw [h.1, ints_inj h.2]
theorem way_inj {a b : Way} (h : PyData.eqv a.data b.data = true) : a = b := by
  unfold Way.data Way.ds at h
  simp only [PyData.eqvAll, PyData.eqv, Bool.and_eq_true, beq_iff_eq] at h
  obtain ⟨h1, h2, h3⟩ := h
  have g1 := kdW_inj h1
  have g2 := Int.ofNat_inj.mp h2
  have g3 := ints_inj h3
  cases a
  cases b
  rw [Way.mk.injEq]
  exact ⟨g1, g2, g3⟩
theorem chg_inj {a b : Bool × Way} (h : PyData.eqv (chgD a) (chgD b) = true) : a = b := by
  unfold chgD at h
  simp only [PyData.eqvAll, PyData.eqv, Bool.and_eq_true, Bool.and_true, beq_iff_eq] at h
  refine Prod.ext ?_ (way_inj h.2)
  have h1 := h.1
  cases ha : a.1 <;> cases hb : b.1 <;> rw [ha, hb] at h1 <;> first | rfl | (exact absurd h1 (by decide +kernel))
theorem hasD_chg (c : Bool × Way) (L : List (Bool × Way)) : hasD (chgD c) (L.map chgD) = decide (c ∈ L) := by
  rw [Bool.eq_iff_iff, decide_eq_true_eq]
  unfold hasD
  rw [List.any_eq_true]
  constructor
  · rintro ⟨d, hd, e⟩
    obtain ⟨x, hx, rfl⟩ := List.mem_map.mp hd
    rw [← chg_inj e]
    exact hx
  · intro h
    exact ⟨chgD c, List.mem_map_of_mem h, SeqAt.eqv_refl _ (chg_lay c).1⟩
theorem nd_atB {α : Type} {l : List α} (nd : l.Nodup) {i j : Nat} {x : α} (h1 : l[i]? = some x) (h2 : l[j]? = some x) : i = j := by
  obtain ⟨a1, b1⟩ := List.getElem?_eq_some_iff.mp h1
  obtain ⟨a2, b2⟩ := List.getElem?_eq_some_iff.mp h2
  have far := List.pairwise_iff_getElem.mp nd
  rcases Nat.lt_trichotomy i j with h | h | h
  · exact absurd (b1.trans b2.symm) (far i j a1 a2 h)
  · exact h
  · exact absurd (b2.trans b1.symm) (far j i a2 a1 h)
/-- a list of right changes -/
structure ChgL (K : PySem.W.Frag) (H : Hp) (l : Addr) (cs : List V) (p : PP) (m : Nat) (L : List (Bool × Way)) : Prop where
  l : H l = some (.lst cs)
  c : TnAll K H cs (L.map chgD)
  ok : p.Ok m
  few : m + L.length ≤ 15
  ch : ChOk p L
  nd : L.Nodup
  st : ∀ c ∈ L, c.2.st.length ≤ 100
theorem ChgL.same {K : PySem.W.Frag} {H H' : Hp} {l : Addr} {cs : List V} {p : PP} {m : Nat} {L : List (Bool × Way)} (h : ChgL K H l cs p m L) (s : Same H H') : ChgL K H' l cs p m L := ⟨s _ _ h.l, TnAll.keep (TK.of_same s) h.c, h.ok, h.few, h.ch, h.nd, h.st⟩
def spChanged (K : PySem.W.Frag) (CP : Addr) : Sp := fun vs H Q _ => ∃ (pa l : Addr) (cs : List V) (p : PP) (m : Nat) (L : List (Bool × Way)), vs = [.ref pa, .ref l] ∧ ProgAt K H CP pa p ∧ ChgL K H l cs p m L ∧ ∀ (x : Addr) H', Same H H' → H x = none → ProgAt K H' CP x (Chd p L) → Q (.ref x) H'
def spChecked (K : PySem.W.Frag) (CP : Addr) : Sp := fun vs H Q _ => ∃ (pa l : Addr) (cs : List V) (p : PP) (m : Nat) (L : List (Bool × Way)), vs = [.ref pa, .ref l, .int (L.length : Nat)] ∧ ProgAt K H CP pa p ∧ ChgL K H l cs p m L ∧ ∀ H', Same H H' → Q .non H'
theorem body_ok {p : PP} {m : Nat} {L : List (Bool × Way)} (ok : p.Ok m) (few : m + L.length ≤ 15) (h : ChOk p L) {e : Bool} {i : Nat} {q : Str × List Td.Row} (hq : (bodiesOf p e)[i]? = some q) : ∃ S, BodOk L e i q S := by
  have own := h.own hq
  have hc := bodies_cnt ok hq
  cases e with
  | true => exact ⟨_, (okEff_get ok.eff hq).1, by omega, own, .inl rfl⟩
  | false =>
    refine ⟨_, (okDer_get ok.der hq).1, by omega, own, .inr fun c hc => ?_⟩
    unfold ownC at hc
    obtain ⟨d, hd, rfl⟩ := List.mem_map.mp hc
    obtain ⟨h1, h2⟩ := List.mem_filter.mp hd
    rw [Bool.and_eq_true, decide_eq_true_eq] at h2
    cases e : d.1 with
    | false => rfl
    | true =>
      have := h.eff d h1 e
      rw [h2.1] at this
      cases this
section
variable {P : Program} {w : World} {K : PySem.W.Frag} {mg : Str → Option Value} {base : Heap}
theorem ok_changed (T : Tops w K mg) (G_changed_bodies : FnOk P w K mg base CX0 6 T.a_changed_bodies T.d_changed_bodies ["kind", "pairs", "changes"] (spChBod K))
    (G_Program_init : FnOk P w K mg base CX0 10 T.a_Program_init T.d_Program_init ["self", "words", "sources", "derived", "effects"] (spProgram K T.c_Program)) :
    FnOk P w K mg base CX0 12 T.a_changed T.d_changed ["program", "changes"] (spChanged K T.c_Program) := by
  refine T.F_changed.ok sc_changed (fun vs H Q E h => ?_) (fun cdv A outer s H vs Q E hr h => ?_)
  · obtain ⟨pa, l, cs, p, m, L, rfl, _⟩ := h
    rfl
  obtain ⟨pa, l, cs, p, m, L, rfl, hP, hC, q⟩ := h
  obtain ⟨dx, aw, as, vd, ve, ⟨dn, en, e, hdn, hen⟩, h1, h2, h3, h4⟩ := hP.ex
  have ok2 := chd_ok hC.ok hC.ch hC.few
  have d6 := hC.ok.d6
  have e4 := hC.ok.e4
  have L15 := hC.few
  refine ⟨_, (pss_cons (ps_set (i := 2) sc_changed.nd rfl (Or.inl rfl) (pe_call G_changed_bodies (hr.mono (by omega)) rfl T.m_changed_bodies T.F_changed_bodies.kp T.b_changed_bodies .nil pass0 (pa_cons pe_str (pa_cons (pe_fld (pv 0) rfl) (pa_cons (pv 1) pa_nil)))))
    (pss_cons (ps_set (i := 3) sc_changed.nd rfl (Or.inl rfl) (pe_call G_changed_bodies (hr.mono (by omega)) rfl T.m_changed_bodies T.F_changed_bodies.kp T.b_changed_bodies .nil pass0 (pa_cons pe_str (pa_cons (pe_fld (pv 0) rfl) (pa_cons (pv 1) pa_nil)))))
    (pss_one (ps_ret (pe_make T.k_Program G_Program_init (hr.mono (by omega)) rfl T.m_Program T.b_Program_init .nil pass0 (pa_cons (pe_fld (pv 0) rfl) (pa_cons (pe_fld (pv 0) rfl) (pa_cons (pv 2) (pa_cons (pv 3) pa_nil))))))))), ?_⟩
  refine ⟨_, rfl, pa, _, dx, _, _, rfl, e, T.l_Program, T.n_Program_derived, progF_derived .., _, rfl, vd, l, cs, false, L, p.derived, rfl, h3, hC.l, hC.c, by omega, by omega, fun i q hq => body_ok hC.ok hC.few hC.ch (e := false) hq, fun x1 H1 s1 hx1 => ?_⟩
  have C1 := hC.same s1
  have e1 := s1 _ _ e
  refine ⟨_, rfl, pa, _, dx, _, _, rfl, e1, T.l_Program, T.n_Program_effects, progF_effects .., _, rfl, ve, l, cs, true, L, p.effects, rfl, Tn.same s1 h4, C1.l, C1.c, by omega, by omega, fun i q hq => body_ok hC.ok hC.few hC.ch (e := true) hq, fun x2 H2 s2 hx2 => ?_⟩
  have s12 := s1.trans s2
  have e2 := s12 _ _ e
  refine ⟨_, rfl, pa, _, dx, _, _, rfl, e2, T.l_Program, T.n_Program_words, progF_words .., _, rfl, pa, _, dx, _, _, rfl, e2, T.l_Program, T.n_Program_sources, progF_sources .., _, rfl, _, rfl, fun oa dx2 hx hdx hne => ?_⟩
  have sx : Same H2 (upd (upd H2 dx2 (.own oa)) oa (.ins T.c_Program dx2 [])) := (Same.new hdx _).trans (Same.new (by rw [upd_ne (Ne.symm hne)]; exact hx) _)
  have s02 := s12.trans sx
  refine ⟨oa, dx2, aw, as, x1, x2, Chd p L, 16, rfl, upd_same, SqT.same s02 h1, SqT.same s02 h2, Tn.same (s2.trans sx) hx1, Tn.same sx hx2, ok2, by decide, fun dn2 en2 H3 s3 hdn2 hen2 => ⟨rfl, ?_⟩⟩
  have fin : Same H2 (upd H3 oa (.ins T.c_Program dx2 (progF aw as x1 x2 dn2 en2))) := own_same (sx.trans s3) hx
  have f0 : H oa = none := free_of' s12 hx
  exact q oa _ (s12.trans fin) f0 ⟨dx2, aw, as, x1, x2, ⟨dn2, en2, upd_same, hdn2, hen2⟩, SqT.same (s12.trans fin) h1, SqT.same (s12.trans fin) h2, Tn.same (s2.trans fin) hx1, Tn.same fin hx2⟩
theorem ok_checked (T : Tops w K mg) (G_is_change : FnOk P w K mg base CX0 6 T.a_is_change T.d_is_change ["program", "value"] (spIsChG K T.c_Program)) :
    FnOk P w K mg base CX0 7 T.a_check_changes T.d_check_changes ["program", "changes", "most"] (spChecked K T.c_Program) := by
  refine T.F_check_changes.ok sc_check_changes (fun vs H Q E h => ?_) (fun cdv A outer s H vs Q E hr h => ?_)
  · obtain ⟨pa, l, cs, p, m, L, rfl, _⟩ := h
    rfl
  obtain ⟨pa, l, cs, p, m, L, rfl, hP, hC, q⟩ := h
  have cl : cs.length = L.length := by have := hC.c.length; rwa [List.length_map] at this
  have L15 := hC.few
  refine ⟨_, (pss_one (ps_for PassesOwn.never rfl (pi_enum rfl T.z_enumerate (pa_cons (pv 1) pa_nil)) (pg_tup rfl (pgs_cons (pg_name (i := 3) sc_check_changes.nd rfl (Or.inl rfl)) (pgs_cons (pg_name (i := 4) sc_check_changes.nd rfl (Or.inl rfl)) pgs_nil))) (pss_one (ps_if (PW.pt (pw_or (pt_cmpR op_ge (pv 3) (pv 2) (nomark _)) (pw_or (pt_not (pt_val (pe_call G_is_change (hr.mono (by omega)) rfl T.m_is_change T.F_is_change.kp T.b_is_change .nil pass0 (pa_cons (pv 0) (pa_cons (pv 4) pa_nil))))) (pw_or1 (pt_cmpR (op_inDL (units65 hr)) (pv 4) (pe_slice sl_list (pv 1) po_none (po_some (pv 3))) (by rfl)))))) (pss_one ps_never) pss_nil)))), ?_⟩
  refine ⟨_, rfl, l, _, rfl, SqL.of hC.l, for_enumL (K := K) (l := l) (zs := cs) (fun i σ H' => ∃ v3 v4 : Option V, σ = [some (.ref pa), some (.ref l), some (.int (L.length : Nat)), v3, v4] ∧ Same H H')
    ⟨none, none, rfl, Same.refl _⟩ (fun i σ H' _ ⟨_, _, _, z⟩ => SqL.of (z _ _ hC.l)) ?_ ?_⟩
  · rintro i x σ H1 t hx ⟨v3, v4, rfl, s1⟩ ht
    have il : i < L.length := by rw [← cl]; exact (List.getElem?_eq_some_iff.mp hx).1
    obtain ⟨c, hc⟩ : ∃ c, L[i]? = some c := ⟨_, List.getElem?_eq_getElem il⟩
    obtain ⟨d, hd1, hd2⟩ := TnAll.get hC.c hx
    rw [List.getElem?_map, hc] at hd1
    obtain rfl := Option.some.inj hd1
    obtain ⟨tc, wb, rfl, hTc, hWb⟩ := chg_tn hd2
    have z1 := Same.new ht (.tup [.int (i : Nat), .ref tc])
    have s2 := s1.trans z1
    have cm := List.mem_of_getElem? hc
    obtain ⟨qq, xc, sc, hq, hrow⟩ := hC.ch.at_ c cm
    refine ⟨t, _, rfl, SqT.of upd_same, rfl, _, _, rfl, _, _, rfl, rfl, ?_⟩
    generalize upd H1 t (.tup [.int (i : Nat), V.ref tc]) = H2 at s2
    refine ⟨_, rfl, _, rfl, _, _, rfl, rfl, _, rfl, if_false_of (decide_eq_false (by omega)) ?_⟩
    refine ⟨_, rfl, _, rfl, pa, tc, wb, p, m, c, qq, xc, sc, rfl, hP.same s2, hC.ok, by omega, SqT.same s2 hTc, SqT.same s2 hWb, hC.st c cm, hq, hrow, hC.ch.eff c cm, fun H3 s3 => ⟨_, rfl, if_false_of rfl ?_⟩⟩
    have s4 := s2.trans s3
    refine ⟨_, rfl, _, rfl, ?_⟩
    dsimp only [tNoPart]
    refine ⟨_, rfl, (i : Nat), rfl, l, cs, rfl, SqL.of (s4 _ _ hC.l), fun g hg => ?_⟩
    rw [cut_to _ i (by omega)]
    have z5 := Same.new hg (.lst (cs.take i))
    have hCt : TnAll K (upd H3 g (.lst (cs.take i))) (cs.take i) ((L.take i).map chgD) := by
      rw [List.map_take]
      exact tn_tk i (TnAll.keep (TK.of_same (s4.trans z5)) hC.c)
    refine ⟨chgD c, (L.take i).map chgD, Tn.dp (Tn.same (s4.trans z5) hd2), .lst (SqL.of upd_same) (TnAll.dp hCt), chg_shaped c, chgs_shaped _, _, rfl, ?_⟩
    refine if_false_of ?_ ?_
    · show hasD (chgD c) ((L.take i).map chgD) = false
      rw [hasD_chg, decide_eq_false]
      intro hm
      obtain ⟨k, hk⟩ := List.getElem?_of_mem hm
      have ki : k < i := by
        have := (List.getElem?_eq_some_iff.mp hk).1
        rw [List.length_take] at this
        omega
      rw [List.getElem?_take_of_lt ki] at hk
      have := nd_atB hC.nd hk hc
      omega
    exact ⟨_, _, rfl, s4.trans z5⟩
  · rintro σ H1 ⟨v3, v4, rfl, s1⟩
    exact q H1 s1
def spWithCh (K : PySem.W.Frag) (CP : Addr) : Sp := spChanged K CP
theorem ok_with_ch (T : Tops w K mg) (G_check_changes : FnOk P w K mg base CX0 7 T.a_check_changes T.d_check_changes ["program", "changes", "most"] (spChecked K T.c_Program))
    (G_changed : FnOk P w K mg base CX0 12 T.a_changed T.d_changed ["program", "changes"] (spChanged K T.c_Program)) :
    FnOk P w K mg base CX0 13 T.a_with_changes T.d_with_changes ["program", "changes"] (spChanged K T.c_Program) := by
  refine T.F_with_changes.ok sc_with_changes (fun vs H Q E h => ?_) (fun cdv A outer s H vs Q E hr h => ?_)
  · obtain ⟨pa, l, cs, p, m, L, rfl, _⟩ := h
    rfl
  obtain ⟨pa, l, cs, p, m, L, rfl, hP, hC, q⟩ := h
  have cl : cs.length = L.length := by have := hC.c.length; rwa [List.length_map] at this
  refine ⟨_, (pss_cons (ps_expr (pe_call G_check_changes (hr.mono (by omega)) rfl T.m_check_changes T.F_check_changes.kp T.b_check_changes .nil pass0 (pa_cons (pv 0) (pa_cons (pv 1) (pa_cons (pe_callB call_len rfl T.z_len PySem.boot_len (pa_cons (pv 1) pa_nil)) pa_nil)))))
    (pss_one (ps_ret (pe_call G_changed (hr.mono (by omega)) rfl T.m_changed T.F_changed.kp T.b_changed .nil pass0 (pa_cons (pv 0) (pa_cons (pv 1) pa_nil)))))), ?_⟩
  refine ⟨_, rfl, _, rfl, _, rfl, .ref l, _, rfl, .inl ⟨_, SqL.of hC.l, rfl⟩, ?_⟩
  rw [cl]
  refine ⟨pa, l, cs, p, m, L, rfl, hP, hC, fun H1 s1 => ?_⟩
  exact ⟨_, rfl, _, rfl, pa, l, cs, p, m, L, rfl, hP.same s1, hC.same s1, fun x H2 s2 n2 hx => q x H2 (s1.trans s2) (free_of s1 n2) hx⟩
end
end K80
namespace K80
open PySem PySem.Spec PyProof.Rows L2 Td
theorem parts_at {K : PySem.W.Frag} {H : Hp} {v : V} {p : PP} (h : Tn K H v p.data) : ∃ (pa aw as : Addr) (vd ve : V), v = .ref pa ∧ SqT K H pa [.ref aw, .ref as, vd, ve] ∧ SqT K H aw (p.words.map V.str) ∧ SqT K H as (p.sources.map V.str) ∧ Tn K H vd (pairsD p.derived) ∧ Tn K H ve (pairsD p.effects) := by
  obtain ⟨pa, xs, rfl, hS, hT⟩ := Tn.tup_inv h
  cases hT with
  | cons c1 t1 =>
    cases t1 with
    | cons c2 t2 =>
      cases t2 with
      | cons c3 t3 =>
        cases t3 with
        | cons c4 t4 =>
          cases t4
          obtain ⟨aw, ws, rfl, hw, hw2⟩ := Tn.tup_inv c1
          obtain ⟨as, ss, rfl, hs, hs2⟩ := Tn.tup_inv c2
          have e1 := hw2.strs_inv
          have e2 := hs2.strs_inv
          subst e1 e2
          exact ⟨pa, aw, as, _, _, rfl, hS, hw, hs, c3, c4⟩
theorem known_has {p : PP} {ws : List Str} {c : Str} (hl : ws.length = p.sources.length) (h : c ∈ p.cells) : (getE (known0 p ws) c).isSome = true :=
  tell_has _ _ _ _ ((List.mem_append.mp h).elim (fun h => .inl (zip_has h hl.symm)) .inr)
def spCells (K : PySem.W.Frag) (CP : Addr) : Sp := fun vs H Q _ => ∃ (pa : Addr) (p : PP) (m : Nat), vs = [.ref pa] ∧ ProgAt K H CP pa p ∧ p.Ok m ∧
  ∀ t H', Same H H' → SqT K H' t (p.cells.map V.str) → Q (.ref t) H'
def wordAt (p : PP) (ws : List Str) (c : Str) : Str := knF (known0 p ws) c
/-- a program and words of its sources -/
structure Good (K : PySem.W.Frag) (H : Hp) (CP pa wa : Addr) (p : PP) (m : Nat) (ws : List Str) : Prop where
  prog : ProgAt K H CP pa p
  ok : p.Ok m
  few : m ≤ 16
  at_ : SqT K H wa (ws.map V.str)
  len : ws.length = p.sources.length
  mem : ∀ z ∈ ws, z ∈ p.words
theorem Good.same {K : PySem.W.Frag} {H H' : Hp} {CP pa wa : Addr} {p : PP} {m : Nat} {ws : List Str} (g : Good K H CP pa wa p m ws) (s : Same H H') : Good K H' CP pa wa p m ws := ⟨g.prog.same s, g.ok, g.few, SqT.same s g.at_, g.len, g.mem⟩
def spMade (K : PySem.W.Frag) (CP : Addr) : Sp := fun vs H Q _ => ∃ (v : V) (p : PP) (m : Nat), vs = [v] ∧ Tn K H v p.data ∧ p.Ok m ∧ m ≤ 16 ∧ ∀ (x : Addr) H', Same H H' → H x = none → ProgAt K H' CP x p → Q (.ref x) H'
def spWordsG (K : PySem.W.Frag) (CP : Addr) : Sp := fun vs H Q _ => ∃ (pa wa : Addr) (p : PP) (m : Nat) (ws : List Str), vs = [.ref pa, .ref wa] ∧ Good K H CP pa wa p m ws ∧
  ∀ t H', Same H H' → SqT K H' t (p.cells.map fun c => V.str (wordAt p ws c)) → Q (.ref t) H'
section
variable {P : Program} {w : World} {K : PySem.W.Frag} {mg : Str → Option Value} {base : Heap}
theorem ok_cells (T : Tops w K mg) :
    FnOk P w K mg base CX0 2 T.a_Program_cells T.d_Program_cells ["self"] (spCells K T.c_Program) := by
  refine T.F_Program_cells.ok sc_Program_cells (fun vs H Q E h => ?_) (fun cdv A outer s H vs Q E hr h => ?_)
  · obtain ⟨pa, p, m, rfl, _⟩ := h
    rfl
  obtain ⟨pa, p, m, rfl, hP, ok, q⟩ := h
  obtain ⟨dx, aw, as, vd, ve, ⟨dn, en, e, hdn, hen⟩, h1, h2, h3, h4⟩ := hP.ex
  have d6 := ok.d6
  have s4 := ok.s4
  refine ⟨_, (pss_one (ps_ret (pe_op op_catA (pe_fld (pv 0) rfl) (pe_fld (pv 0) rfl)))), ?_⟩
  refine ⟨_, rfl, pa, _, dx, _, _, rfl, e, T.l_Program, T.n_Program_sources, progF_sources .., _, rfl, pa, _, dx, _, _, rfl, e, T.l_Program, T.n_Program__derived_names, progF_dn .., ?_⟩
  refine cat_all h2 hdn (Nat.le_of_lt (small1000 (by rw [List.length_map, List.length_map]; omega))) (fun c H2 t2 hc => q c H2 t2 ?_)
  unfold PP.cells
  rw [List.map_append, List.map_map]
  exact hc
theorem ok_true_wordsG (T : Tops w K mg) (G_check_start : FnOk P w K mg base CX0 2 T.a_check_start T.d_check_start ["program", "words"] (spStart K T.c_Program))
    (G_Program_cells : FnOk P w K mg base CX0 2 T.a_Program_cells T.d_Program_cells ["self"] (spCells K T.c_Program))
    (G_known_words : FnOk P w K mg base CX0 8 T.a_known_words T.d_known_words ["program", "words"] (spKnown K T.c_Program)) :
    FnOk P w K mg base CX0 9 T.a_true_words T.d_true_words ["program", "words"] (spWordsG K T.c_Program) := by
  refine T.F_true_words.ok sc_true_words (fun vs H Q E h => ?_) (fun cdv A outer s H vs Q E hr h => ?_)
  · obtain ⟨pa, wa, p, m, ws, rfl, _⟩ := h
    rfl
  obtain ⟨pa, wa, p, m, ws, rfl, g, q⟩ := h
  refine ⟨_, (pss_cons (ps_expr (pe_call G_check_start (hr.mono (by omega)) rfl T.m_check_start T.F_check_start.kp T.b_check_start .nil pass0 (pa_cons (pv 0) (pa_cons (pv 1) pa_nil))))
    (pss_cons (ps_set (i := 2) sc_true_words.nd rfl (Or.inr rfl) (pe_call G_known_words (hr.mono (by omega)) rfl T.m_known_words T.F_known_words.kp T.b_known_words .nil pass0 (pa_cons (pv 0) (pa_cons (pv 1) pa_nil))))
    (pss_one (ps_ret (pe_callTy call_tuple_of rfl T.z_tuple (by decide +kernel) (pa_cons (pe_lc (own := [("cell", 3)]) (g := gName 3) (tt := tYes) (te := tDGet (tVar 2) (tVar 3)) rfl sc_true_words.nd (pi_tup (pe_meth0 (pv 0) T.l_Program T.t_Program_cells G_Program_cells (hr.mono (by omega)) T.b_Program_cells .nil pass0)) (blkOk_by (own := [("cell", 3)]) (N := N_true_words) (sc := defScope s_true_words) (by decide +kernel)) (fun _ _ _ _ _ => (pg_name (i := 3) sc_true_words.nd rfl (Or.inl rfl))) (fun _ _ _ _ _ => pts_nil) (fun _ _ _ _ _ => (pe_dget (hu_of hr) (pv 2) (pv 3) (fun _ _ => rfl)))) pa_nil)))))), ?_⟩
  refine ⟨_, rfl, _, rfl, pa, wa, p, m, ws, rfl, g.prog, g.ok, g.at_, g.len, g.mem, fun H1 s1 => ?_⟩
  have g1 := g.same s1
  refine ⟨_, rfl, _, rfl, pa, wa, p, m, ws, rfl, g1.prog, g1.ok, g1.few, g1.at_, g1.len, fun kd H2 t2 hk => ?_⟩
  have g2 := g1.same t2
  obtain ⟨dx, _, _, _, _, ⟨_, _, e, _, _⟩, _⟩ := g2.prog.ex
  have s4 := g.ok.s4
  have d6 := g.ok.d6
  refine ⟨_, rfl, pa, dx, _, rfl, e, by kernel_rfl, pa, p, m, rfl, g2.prog, g2.ok, fun t H3 t3 ht => ?_⟩
  have hk3 := t3 _ _ hk
  have cl : p.cells.length ≤ 10 := by unfold PP.cells; rw [List.length_append, List.length_map]; omega
  refine ⟨t, rfl, ⟨_, ht⟩, fun D hD => lc_tup (K := K) (a := t) (xs := p.cells.map V.str) (fun i H' => Same H3 H' ∧ H' D = some (.lst ((p.cells.take i).map fun c => V.str (wordAt p ws c))))
    ⟨Same.new hD _, upd_same⟩ (fun i H' _ ⟨hs, _⟩ => SqT.same hs ht) ?_ ?_⟩
  · rintro i x H' hx ⟨hs, hb⟩
    rw [List.getElem?_map] at hx
    obtain ⟨c, hc, rfl⟩ := Option.map_eq_some_iff.mp hx
    have hi : i < p.cells.length := (List.getElem?_eq_some_iff.mp hc).1
    refine ⟨rfl, tYes_of ?_⟩
    refine ⟨_, rfl, _, rfl, kd, _, rfl, get_known (hs _ _ hk3) (known_has g.len (List.mem_of_getElem? hc)), ?_⟩
    refine ⟨_, hb, small1000 (by rw [List.length_map, List.length_take]; omega), own_same hs hD, ?_⟩
    rw [upd_same, take_more hc, List.map_append]
    rfl
  · rintro H' ⟨hs, hb⟩
    rw [List.length_map, List.take_length] at hb
    refine ⟨D, _, rfl, .inl ⟨SqL.of hb, fun wa' hwa => ?_⟩⟩
    exact q wa' _ (((s1.trans t2).trans t3).trans (hs.trans (Same.new hwa _))) (SqT.of upd_same)
theorem ok_law_program (T : Tops w K mg) (G_Program_init : FnOk P w K mg base CX0 10 T.a_Program_init T.d_Program_init ["self", "words", "sources", "derived", "effects"] (spProgram K T.c_Program)) :
    FnOk P w K mg base CX0 12 T.a__law_program T.d__law_program ["_law_parts_here"] (spMade K T.c_Program) := by
  refine T.F__law_program.ok sc_law_program (fun vs H Q E h => ?_) (fun cdv A outer s H vs Q E hr h => ?_)
  · obtain ⟨v, p, m, rfl, _⟩ := h
    rfl
  obtain ⟨v, p, m, rfl, hD, ok, hm, q⟩ := h
  obtain ⟨pa, aw, as, vd, ve, rfl, hP, h1, h2, h3, h4⟩ := parts_at hD
  refine ⟨_, (pss_one (ps_ret (pe_make T.k_Program G_Program_init (hr.mono (by omega)) rfl T.m_Program T.b_Program_init .nil pass0 (pa_cons (pe_ix ix_tup (pv 0) pe_int (fun _ _ => rfl)) (pa_cons (pe_ix ix_tup (pv 0) pe_int (fun _ _ => rfl)) (pa_cons (pe_ix ix_tup (pv 0) pe_int (fun _ _ => rfl)) (pa_cons (pe_ix ix_tup (pv 0) pe_int (fun _ _ => rfl)) pa_nil))))))), ?_⟩
  refine ⟨_, rfl, pa, _, 0, _, rfl, rfl, hP, rfl, _, rfl, pa, _, 1, _, rfl, rfl, hP, rfl, _, rfl, pa, _, 2, _, rfl, rfl, hP, rfl, _, rfl, pa, _, 3, _, rfl, rfl, hP, rfl, fun x dx hx hdx hne => ?_⟩
  have sx : Same H (upd (upd H dx (.own x)) x (.ins T.c_Program dx [])) := (Same.new hdx _).trans (Same.new (by rw [upd_ne (Ne.symm hne)]; exact hx) _)
  refine ⟨x, dx, aw, as, vd, ve, p, m, rfl, upd_same, SqT.same sx h1, SqT.same sx h2, Tn.same sx h3, Tn.same sx h4, ok, hm, fun dn en H5 s5 hdn hen => ⟨rfl, ?_⟩⟩
  have s46 : Same H (upd H5 x (.ins T.c_Program dx (progF aw as vd ve dn en))) := own_same (sx.trans s5) hx
  exact q x _ s46 hx ⟨dx, aw, as, vd, ve, ⟨dn, en, upd_same, hdn, hen⟩, SqT.same s46 h1, SqT.same s46 h2, Tn.same s46 h3, Tn.same s46 h4⟩
end
end K80
namespace K80
open PySem PySem.Spec PyProof.Rows L2 Td
/-! ### rows with their paths -/
mutual
def prsR : Td.Row → List Int → Nat → List (List Int × Td.Row)
  | .ite s u y n, pb, i => (pb ++ [((i : Nat) : Int)], .ite s u y n) :: (prsRs y (pb ++ [((i : Nat) : Int), 0]) 0 ++ prsRs n (pb ++ [((i : Nat) : Int), 1]) 0)
  | .rd pk c s, pb, i => [(pb ++ [((i : Nat) : Int)], .rd pk c s)]
  | .put s u, pb, i => [(pb ++ [((i : Nat) : Int)], .put s u)]
  | .give s, pb, i => [(pb ++ [((i : Nat) : Int)], .give s)]
  | .say s, pb, i => [(pb ++ [((i : Nat) : Int)], .say s)]
  | .wr c s, pb, i => [(pb ++ [((i : Nat) : Int)], .wr c s)]
def prsRs : List Td.Row → List Int → Nat → List (List Int × Td.Row)
  | [], _, _ => []
  | r :: rs, pb, k => prsR r pb k ++ prsRs rs pb (k + 1)
end
theorem prsRs_append : ∀ (rs ts : List Td.Row) (pb : List Int) (k : Nat), prsRs (rs ++ ts) pb k = prsRs rs pb k ++ prsRs ts pb (k + rs.length)
  | [], ts, pb, k => by simp [prsRs]
  | r :: rs, ts, pb, k => by
    rw [List.cons_append]
    simp only [prsRs, prsRs_append rs ts pb (k + 1), List.append_assoc, List.length_cons]
    rw [show k + 1 + rs.length = k + (rs.length + 1) by omega]
theorem prsRs_take {rs : List Td.Row} {i : Nat} {r : Td.Row} (h : rs[i]? = some r) (pb : List Int) : prsRs (rs.take (i + 1)) pb 0 = prsRs (rs.take i) pb 0 ++ prsR r pb i := by
  have hi : i < rs.length := (List.getElem?_eq_some_iff.mp h).1
  rw [take_more h, prsRs_append]
  simp only [prsRs, List.append_nil, List.length_take]
  rw [show 0 + min i rs.length = i by omega]
theorem prsR_flat {r : Td.Row} (h : isIte r = false) (pb : List Int) (i : Nat) : prsR r pb i = [(pb ++ [((i : Nat) : Int)], r)] := by
  cases r with
  | ite => cases h
  | _ => simp only [prsR]
mutual
theorem prsR_len : ∀ (r : Td.Row) (pb : List Int) (i : Nat), (prsR r pb i).length = Td.cnt r
  | .ite _ _ y n, pb, i => by
    simp only [prsR, Td.cnt, List.length_cons, List.length_append, prsRs_len y, prsRs_len n]
    omega
  | .rd .., pb, i => by simp [prsR, Td.cnt]
  | .put .., pb, i => by simp [prsR, Td.cnt]
  | .give .., pb, i => by simp [prsR, Td.cnt]
  | .say .., pb, i => by simp [prsR, Td.cnt]
  | .wr .., pb, i => by simp [prsR, Td.cnt]
theorem prsRs_len : ∀ (rs : List Td.Row) (pb : List Int) (k : Nat), (prsRs rs pb k).length = cnts rs
  | [], pb, k => by simp [prsRs, cnts]
  | r :: rs, pb, k => by simp only [prsRs, cnts, List.length_append, prsR_len r, prsRs_len rs]
end
theorem rowAt_one' {rs : List Td.Row} {i : Nat} {r : Td.Row} (h : rs[i]? = some r) : rowAt rs [((i : Nat) : Int)] = some r := by
  unfold rowAt
  rw [getI_nat]
  exact h
theorem rowAt_in {rs : List Td.Row} {i : Nat} {s u : Str} {y n : List Td.Row} (h : rs[i]? = some (.ite s u y n)) (j : Int) (st : List Int) : rowAt rs (((i : Nat) : Int) :: j :: st) = if j = 0 then rowAt y st else if j = 1 then rowAt n st else none := by
  conv => lhs; rw [rowAt]
  rw [getI_nat, h]
/-! a row stands at its path -/
mutual
theorem prs_at : ∀ (r : Td.Row) (pb : List Int) (i : Nat) (Rs : List Td.Row), Rs[i]? = some r → ∀ c ∈ prsR r pb i, ∃ st', c.1 = pb ++ ((i : Nat) : Int) :: st' ∧ rowAt Rs (((i : Nat) : Int) :: st') = some c.2 ∧ st'.length + 1 ≤ 2 * Td.cnt r
  | .ite s u y n, pb, i, Rs, h, c, hc => by
    unfold prsR at hc
    have ec : Td.cnt (.ite s u y n) = 1 + cnts y + cnts n := by unfold Td.cnt; rfl
    rcases List.mem_cons.mp hc with rfl | hc
    · exact ⟨[], rfl, rowAt_one' h, by rw [ec]; show 1 ≤ _; omega⟩
    · rcases List.mem_append.mp hc with hc | hc
      · obtain ⟨j, st', e, h1, h2, _⟩ := prs_atL y (pb ++ [((i : Nat) : Int), 0]) 0 y [] rfl rfl c hc
        refine ⟨0 :: ((j : Nat) : Int) :: st', by rw [e]; simp, ?_, by rw [ec, List.length_cons, List.length_cons]; omega⟩
        rw [rowAt_in h]
        exact h1
      · obtain ⟨j, st', e, h1, h2, _⟩ := prs_atL n (pb ++ [((i : Nat) : Int), 1]) 0 n [] rfl rfl c hc
        refine ⟨1 :: ((j : Nat) : Int) :: st', by rw [e]; simp, ?_, by rw [ec, List.length_cons, List.length_cons]; omega⟩
        rw [rowAt_in h]
        exact h1
  | .rd .., pb, i, Rs, h, c, hc => by unfold prsR at hc; rw [List.mem_singleton.mp hc]; exact ⟨[], rfl, rowAt_one' h, by simp [Td.cnt]⟩
  | .put .., pb, i, Rs, h, c, hc => by unfold prsR at hc; rw [List.mem_singleton.mp hc]; exact ⟨[], rfl, rowAt_one' h, by simp [Td.cnt]⟩
  | .give .., pb, i, Rs, h, c, hc => by unfold prsR at hc; rw [List.mem_singleton.mp hc]; exact ⟨[], rfl, rowAt_one' h, by simp [Td.cnt]⟩
  | .say .., pb, i, Rs, h, c, hc => by unfold prsR at hc; rw [List.mem_singleton.mp hc]; exact ⟨[], rfl, rowAt_one' h, by simp [Td.cnt]⟩
  | .wr .., pb, i, Rs, h, c, hc => by unfold prsR at hc; rw [List.mem_singleton.mp hc]; exact ⟨[], rfl, rowAt_one' h, by simp [Td.cnt]⟩
theorem prs_atL : ∀ (rs : List Td.Row) (pb : List Int) (k : Nat) (Rs pre : List Td.Row), Rs = pre ++ rs → pre.length = k → ∀ c ∈ prsRs rs pb k, ∃ (j : Nat) (st' : List Int), c.1 = pb ++ ((j : Nat) : Int) :: st' ∧ rowAt Rs (((j : Nat) : Int) :: st') = some c.2 ∧ st'.length + 1 ≤ 2 * cnts rs ∧ k ≤ j
  | [], pb, k, Rs, pre, _, _, c, hc => by unfold prsRs at hc; cases hc
  | r :: rs, pb, k, Rs, pre, e, ek, c, hc => by
    unfold prsRs at hc
    have ec : cnts (r :: rs) = Td.cnt r + cnts rs := by simp only [cnts]
    rcases List.mem_append.mp hc with hc | hc
    · obtain ⟨st', e1, h1, h2⟩ := prs_at r pb k Rs (by rw [e, ← ek]; simp) c hc
      exact ⟨k, st', e1, h1, by rw [ec]; omega, Nat.le_refl _⟩
    · obtain ⟨j, st', e1, h1, h2, h3⟩ := prs_atL rs pb (k + 1) Rs (pre ++ [r]) (by rw [e, List.append_assoc]; rfl) (by rw [List.length_append, ek]; rfl) c hc
      exact ⟨j, st', e1, h1, by rw [ec]; omega, by omega⟩
end
theorem app_ne {α : Type} {a b c : List α} {x y : α} (h : a ++ x :: b = a ++ y :: c) : x = y := by
  have := List.append_cancel_left h
  injection this
/-! no path comes twice -/
mutual
theorem prs_nd : ∀ (r : Td.Row) (pb : List Int) (i : Nat), ((prsR r pb i).map (·.1)).Nodup
  | .ite s u y n, pb, i => by
    unfold prsR
    rw [List.map_cons, List.map_append, List.nodup_cons, List.nodup_append]
    have hy : ∀ c ∈ prsRs y (pb ++ [((i : Nat) : Int), 0]) 0, ∃ t, c.1 = pb ++ ((i : Nat) : Int) :: 0 :: t := fun c hc => by
      obtain ⟨j, st', e, _⟩ := prs_atL y _ 0 y [] rfl rfl c hc
      exact ⟨_, by rw [e, List.append_assoc]; rfl⟩
    have hn : ∀ c ∈ prsRs n (pb ++ [((i : Nat) : Int), 1]) 0, ∃ t, c.1 = pb ++ ((i : Nat) : Int) :: 1 :: t := fun c hc => by
      obtain ⟨j, st', e, _⟩ := prs_atL n _ 0 n [] rfl rfl c hc
      exact ⟨_, by rw [e, List.append_assoc]; rfl⟩
    refine ⟨fun h => ?_, prs_ndL y _ 0, prs_ndL n _ 0, fun a ha b hb e => ?_⟩
    · rcases List.mem_append.mp h with h | h
      · obtain ⟨c, hc, e⟩ := List.mem_map.mp h
        obtain ⟨t, e2⟩ := hy c hc
        rw [e2] at e
        have := congrArg List.length e
        simp at this
      · obtain ⟨c, hc, e⟩ := List.mem_map.mp h
        obtain ⟨t, e2⟩ := hn c hc
        rw [e2] at e
        have := congrArg List.length e
        simp at this
    · obtain ⟨c, hc, rfl⟩ := List.mem_map.mp ha
      obtain ⟨d, hd, rfl⟩ := List.mem_map.mp hb
      obtain ⟨t, e2⟩ := hy c hc
      obtain ⟨u, e3⟩ := hn d hd
      rw [e2, e3] at e
      have h1 := List.append_cancel_left e
      injection h1 with _ h1
      injection h1 with h1 _
      exact absurd h1 (by decide)
  | .rd .., pb, i => by unfold prsR; simp
  | .put .., pb, i => by unfold prsR; simp
  | .give .., pb, i => by unfold prsR; simp
  | .say .., pb, i => by unfold prsR; simp
  | .wr .., pb, i => by unfold prsR; simp
theorem prs_ndL : ∀ (rs : List Td.Row) (pb : List Int) (k : Nat), ((prsRs rs pb k).map (·.1)).Nodup
  | [], pb, k => by unfold prsRs; simp
  | r :: rs, pb, k => by
    unfold prsRs
    rw [List.map_append, List.nodup_append]
    refine ⟨prs_nd r pb k, prs_ndL rs pb (k + 1), fun a ha b hb e => ?_⟩
    obtain ⟨c, hc, rfl⟩ := List.mem_map.mp ha
    obtain ⟨d, hd, rfl⟩ := List.mem_map.mp hb
    obtain ⟨st', e1, _⟩ := prs_at r pb k (List.replicate k r ++ [r]) (by simp) c hc
    obtain ⟨j, st2, e2, _, _, hj⟩ := prs_atL rs pb (k + 1) (List.replicate (k + 1) r ++ rs) (List.replicate (k + 1) r) rfl (by simp) d hd
    rw [e1, e2] at e
    have := app_ne e
    omega
end
/-- a row with its path, as data -/
def prD (c : Way × Td.Row) : PyData := .tuple [c.1.data, rowD c.2]
def wayR (e : Bool) (i : Nat) (c : List Int × Td.Row) : Way × Td.Row := (⟨e, i, c.1⟩, c.2)
def prsP (e : Bool) : List (Str × List Td.Row) → Nat → List (Way × Td.Row)
  | [], _ => []
  | q :: r, i => (prsRs q.2 [] 0).map (wayR e i) ++ prsP e r (i + 1)
theorem prsP_append (e : Bool) : ∀ (ps qs : List (Str × List Td.Row)) (i : Nat), prsP e (ps ++ qs) i = prsP e ps i ++ prsP e qs (i + ps.length)
  | [], qs, i => by simp [prsP]
  | p :: ps, qs, i => by
    rw [List.cons_append]
    simp only [prsP, prsP_append e ps qs (i + 1), List.append_assoc, List.length_cons]
    rw [show i + 1 + ps.length = i + (ps.length + 1) by omega]
theorem prsP_take {e : Bool} {ps : List (Str × List Td.Row)} {i : Nat} {q : Str × List Td.Row} (h : ps[i]? = some q) : prsP e (ps.take (i + 1)) 0 = prsP e (ps.take i) 0 ++ (prsRs q.2 [] 0).map (wayR e i) := by
  have hi : i < ps.length := (List.getElem?_eq_some_iff.mp h).1
  rw [take_more h, prsP_append]
  simp only [prsP, List.append_nil, List.length_take]
  rw [show 0 + min i ps.length = i by omega]
theorem prsP_len {e : Bool} : ∀ {ps : List (Str × List Td.Row)} {k : Nat}, (∀ q ∈ ps, cnts q.2 ≤ 16) → (prsP e ps k).length ≤ 16 * ps.length
  | [], k, _ => by simp [prsP]
  | p :: ps, k, h => by
    have h1 := h p (List.mem_cons_self ..)
    have h2 := prsP_len (e := e) (ps := ps) (k := k + 1) (fun q hq => h q (List.mem_cons_of_mem _ hq))
    simp only [prsP, List.length_append, List.length_map, prsRs_len, List.length_cons]
    omega
theorem prsP_at {e : Bool} : ∀ (ps : List (Str × List Td.Row)) (k : Nat) (Ps pre : List (Str × List Td.Row)), Ps = pre ++ ps → pre.length = k → ∀ c ∈ prsP e ps k, c.1.e = e ∧ k ≤ c.1.i ∧ ∃ q, Ps[c.1.i]? = some q ∧ rowAt q.2 c.1.st = some c.2 ∧ c.1.st.length ≤ 2 * cnts q.2
  | [], k, Ps, pre, _, _, c, hc => nomatch hc
  | q :: r, k, Ps, pre, eP, ek, c, hc => by
    rcases List.mem_append.mp (show c ∈ (prsRs q.2 [] 0).map (wayR e k) ++ prsP e r (k + 1) from hc) with hc | hc
    · obtain ⟨d, hd, rfl⟩ := List.mem_map.mp hc
      obtain ⟨j, st', e1, h1, h2, _⟩ := prs_atL q.2 [] 0 q.2 [] rfl rfl d hd
      rw [List.nil_append] at e1
      refine ⟨rfl, Nat.le_refl _, q, by show Ps[k]? = _; rw [eP, ← ek]; simp, ?_, ?_⟩
      · show rowAt q.2 d.1 = some d.2
        rw [e1]; exact h1
      · show d.1.length ≤ _
        rw [e1, List.length_cons]; exact h2
    · obtain ⟨h1, h2, h3⟩ := prsP_at r (k + 1) Ps (pre ++ [q]) (by rw [eP, List.append_assoc]; rfl) (by rw [List.length_append, ek]; rfl) c hc
      exact ⟨h1, by omega, h3⟩
theorem prsP_nd {e : Bool} : ∀ (ps : List (Str × List Td.Row)) (k : Nat), ((prsP e ps k).map (·.1)).Nodup
  | [], k => by simp [prsP]
  | q :: r, k => by
    show (((prsRs q.2 [] 0).map (wayR e k) ++ prsP e r (k + 1)).map (·.1)).Nodup
    rw [List.map_append, List.nodup_append]
    refine ⟨?_, prsP_nd r (k + 1), fun a ha b hb eq => ?_⟩
    · have h := prs_ndL q.2 [] 0
      rw [List.map_map]
      have e2 : (prsRs q.2 [] 0).map ((fun x : Way × Td.Row => x.1) ∘ wayR e k) = ((prsRs q.2 [] 0).map (·.1)).map fun st => (⟨e, k, st⟩ : Way) := by rw [List.map_map]; rfl
      rw [e2]
      exact List.Pairwise.map _ (fun a b hab z => hab (by injection z)) h
    · obtain ⟨c, hc, rfl⟩ := List.mem_map.mp ha
      obtain ⟨d, hd, rfl⟩ := List.mem_map.mp hb
      obtain ⟨c', _, rfl⟩ := List.mem_map.mp hc
      have h := (prsP_at (e := e) r (k + 1) (List.replicate (k + 1) q ++ r) (List.replicate (k + 1) q) rfl (by simp) d hd).2.1
      have : k = d.1.i := congrArg Way.i eq
      omega
def prsAll (p : PP) : List (Way × Td.Row) := prsP false p.derived 0 ++ prsP true p.effects 0
theorem prsAll_at {p : PP} {m : Nat} (ok : p.Ok m) {c : Way × Td.Row} (hc : c ∈ prsAll p) : ∃ q, (bodiesOf p c.1.e)[c.1.i]? = some q ∧ rowAt q.2 c.1.st = some c.2 ∧ c.1.st.length ≤ 2 * m := by
  unfold prsAll at hc
  rcases List.mem_append.mp hc with hc | hc
  · obtain ⟨e, _, q, h1, h2, h3⟩ := prsP_at p.derived 0 p.derived [] rfl rfl c hc
    have := (okDer_get ok.der h1).2
    exact ⟨q, by rw [e]; exact h1, h2, by omega⟩
  · obtain ⟨e, _, q, h1, h2, h3⟩ := prsP_at p.effects 0 p.effects [] rfl rfl c hc
    have := (okEff_get ok.eff h1).2
    exact ⟨q, by rw [e]; exact h1, h2, by omega⟩
theorem prsAll_nd (p : PP) : ((prsAll p).map (·.1)).Nodup := by
  unfold prsAll
  rw [List.map_append, List.nodup_append]
  refine ⟨prsP_nd .., prsP_nd .., fun a ha b hb e => ?_⟩
  obtain ⟨c, hc, rfl⟩ := List.mem_map.mp ha
  obtain ⟨d, hd, rfl⟩ := List.mem_map.mp hb
  have h1 := (prsP_at p.derived 0 p.derived [] rfl rfl c hc).1
  have h2 := (prsP_at p.effects 0 p.effects [] rfl rfl d hd).1
  rw [e, h2] at h1
  cases h1
theorem few_rows {p : PP} {m : Nat} (ok : p.Ok m) (hm : m ≤ 16) : (∀ q ∈ p.derived, cnts q.2 ≤ 16) ∧ (∀ q ∈ p.effects, cnts q.2 ≤ 16) :=
  ⟨fun q hq => by have := (okDer_lim ok.der hq).1; omega, fun q hq => by have := (okEff_lim ok.eff hq).1; omega⟩
theorem prsAll_len {p : PP} {m : Nat} (ok : p.Ok m) (hm : m ≤ 16) : (prsAll p).length ≤ 160 := by
  obtain ⟨f1, f2⟩ := few_rows ok hm
  have h1 := prsP_len (e := false) (k := 0) f1
  have h2 := prsP_len (e := true) (k := 0) f2
  have d6 := ok.d6
  have e4 := ok.e4
  unfold prsAll
  rw [List.length_append]
  omega
def spPrs (K : PySem.W.Frag) (n : Nat) : Sp := fun vs H Q _ => ∃ (v : V) (b : Addr) (e : Bool) (i : Nat) (pb : List Int) (S : Sc) (dep : Nat) (rs : List Td.Row), vs = [v, .ref b] ∧ Tn K H v (.tuple (rowsD rs)) ∧
  SqT K H b (Way.mk e i pb).vs ∧ pb.length ≤ 2 * dep ∧ okRs S dep rs ∧ cnts rs ≤ 100 ∧ dep ≤ 4 ∧ 5 ≤ dep + n ∧ ∀ (p : Addr) (xs : List V) H', Same H H' → H p = none → H' p = some (.lst xs) → TnAll K H' xs (((prsRs rs pb 0).map (wayR e i)).map prD) → Q (.ref p) H'
def spPrsAll (K : PySem.W.Frag) : Sp := fun vs H Q _ => ∃ (v : V) (p : PP) (m : Nat), vs = [v] ∧ Tn K H v p.data ∧ p.Ok m ∧ m ≤ 16 ∧
  ∀ (l : Addr) (xs : List V) H', Same H H' → H l = none → H' l = some (.lst xs) → TnAll K H' xs ((prsAll p).map prD) → Q (.ref l) H'
section
variable {P : Program} {w : World} {K : PySem.W.Frag} {mg : Str → Option Value} {base : Heap}
theorem ok_prs1 (T : Tops w K mg) {n : Nat} (G__law_paths : FnOk P w K mg base CX0 n T.a__law_paths T.d__law_paths ["_law_rows_here", "_law_path"] (spPrs K n)) :
    FnOk P w K mg base CX0 (n + 1) T.a__law_paths T.d__law_paths ["_law_rows_here", "_law_path"] (spPrs K (n + 1)) := by
  refine T.F__law_paths.ok sc_law_paths (fun vs H Q E h => ?_) (fun cdv A outer s H vs Q E hr h => ?_)
  · obtain ⟨v, b, e, i, pb, S, dep, rs, rfl, _⟩ := h
    rfl
  obtain ⟨v, b, eb, ib, pb, S, dep, rs, rfl, hD, hB, hbl, ok, hcn, hdep, hn, q⟩ := h
  obtain ⟨a, xs, rfl, hS, hX⟩ := Tn.tup_inv hD
  have hl : xs.length = rs.length := by rw [hX.length, rowsD_length]
  have lr : rs.length ≤ cnts rs := cnts_len rs
  refine ⟨_, (pss_cons (ps_set (i := 2) sc_law_paths.nd rfl (Or.inl rfl) (pe_lst pa_nil))
    (pss_cons (ps_for PassesOwn.never rfl (pi_range1 rfl T.z_range (pa_cons (pe_callB call_len rfl T.z_len PySem.boot_len (pa_cons (pv 0) pa_nil)) pa_nil)) (pg_name (i := 3) sc_law_paths.nd rfl (Or.inl rfl)) (pss_cons (ps_expr (pe_bm PySem.F.plainAttrs_list PySem.F.slot_list_append PySem.F.type_list_append mt_append (pv 2) (pa_cons (pe_tup (pa_cons (pe_op op_catA (pv 1) (pe_tup (pa_cons (pv 3) pa_nil))) (pa_cons (pe_ix ix_tup (pv 0) (pv 3) (fun _ _ => rfl)) pa_nil))) pa_nil)))
    (pss_one (ps_if (pt_cmpR op_eq (pe_ix ix_tup (pe_ix ix_tup (pv 0) (pv 3) (fun _ _ => rfl)) pe_int (fun _ _ => rfl)) pe_str (nomark _)) (pss_one (ps_set (i := 2) sc_law_paths.nd rfl (Or.inl rfl) (pe_op op_cat (pe_op op_cat (pv 2) (pe_call G__law_paths (hr.mono (by omega)) rfl T.m__law_paths T.F__law_paths.kp T.b__law_paths .nil pass0 (pa_cons (pe_ix ix_tup (pe_ix ix_tup (pv 0) (pv 3) (fun _ _ => rfl)) pe_int (fun _ _ => rfl)) (pa_cons (pe_op op_catA (pv 1) (pe_tup (pa_cons (pv 3) (pa_cons pe_int pa_nil)))) pa_nil)))) (pe_call G__law_paths (hr.mono (by omega)) rfl T.m__law_paths T.F__law_paths.kp T.b__law_paths .nil pass0 (pa_cons (pe_ix ix_tup (pe_ix ix_tup (pv 0) (pv 3) (fun _ _ => rfl)) pe_int (fun _ _ => rfl)) (pa_cons (pe_op op_catA (pv 1) (pe_tup (pa_cons (pv 3) (pa_cons pe_int pa_nil)))) pa_nil)))))) pss_nil))))
    (pss_one (ps_ret (pv 2))))), ?_⟩
  refine ⟨by show 0 ≤ sizeLine; decide, fun p hp => ?_⟩
  have bl : (Way.mk eb ib pb).vs.length ≤ 12 := by unfold Way.vs; rw [List.length_cons, List.length_cons, List.length_map]; show pb.length + 1 + 1 ≤ 12; omega
  refine ⟨_, rfl, .ref a, _, rfl, .inr ⟨_, SqT.same (Same.new hp _) hS, rfl⟩, ((xs.length : Nat) : Int), rfl, by omega, by omega, for_range (lo := 0) (n := ((xs.length : Nat) : Int).toNat)
    (fun i σ H' => ∃ (v3 : Option V) (l : Addr) (ys : List V), σ = [some (.ref a), some (.ref b), some (.ref l), v3] ∧ Same H H' ∧ H l = none ∧ H' l = some (.lst ys) ∧ TnAll K H' ys (((prsRs (rs.take i) pb 0).map (wayR eb ib)).map prD))
    ⟨none, p, [], rfl, Same.new hp _, hp, upd_same, by simp only [List.take_zero, prsRs]; exact .nil⟩ ?_ ?_⟩
  · rintro i σ H1 hi ⟨v3, l, ys, rfl, hs, hnl, hy, hyT⟩
    rw [Int.toNat_natCast] at hi
    rw [show (0 : Int) + (i : Nat) = (i : Nat) by omega]
    have hix : xs[i]? = some xs[i] := List.getElem?_eq_getElem hi
    obtain ⟨d, hd1, hd2⟩ := TnAll.get hX hix
    rw [rowsD_map, List.getElem?_map] at hd1
    obtain ⟨r, hr2, rfl⟩ := Option.map_eq_some_iff.mp hd1
    have okr := okRs_get ok hr2
    have hcr := cnts_get hr2
    have hyl : ys.length = cnts (rs.take i) := by rw [hyT.length, List.length_map, List.length_map, prsRs_len]
    have ptk := prsRs_take hr2 pb
    refine ⟨_, rfl, .inl ⟨rfl, _, SqL.of hy⟩, ?_⟩
    refine ⟨_, rfl, _, rfl, by show 1 ≤ sizeLine; decide, fun t1 ht1 => ?_⟩
    have s12 := Same.new ht1 (.tup [.int (i : Nat)])
    refine cat_all (SqT.same (hs.trans s12) hB) (SqT.of upd_same) (Nat.le_of_lt (small1000 (by show _ + 1 ≤ 1000; omega))) (fun pa H3 s3 hP => ?_)
    have s13 := s12.trans s3
    have hs3 := hs.trans s13
    have hpT : Tn K H3 (.ref pa) (Way.mk eb ib (pb ++ [((i : Nat) : Int)])).data := Way.tn (by
      have : (Way.mk eb ib (pb ++ [((i : Nat) : Int)])).vs = (Way.mk eb ib pb).vs ++ [.int (i : Nat)] := by unfold Way.vs; rw [List.map_append]; rfl
      rw [this]; exact hP)
    refine ⟨_, rfl, _, rfl, a, _, (i : Nat), _, rfl, rfl, SqT.same hs3 hS, atI_nat hix, by show 2 ≤ sizeLine; decide, fun t2 ht2 => ?_⟩
    have s34 := Same.new ht2 (.tup [.ref pa, xs[i]])
    have s14 := s13.trans s34
    have hy4 := s14 _ _ hy
    have hyT4 := TnAll.keep (TK.of_same s14) hyT
    have hxi : Tn K (upd H3 t2 (.tup [.ref pa, xs[i]])) xs[i] (rowD r) := Tn.same (hs.trans s14) hd2
    have hpr : Tn K (upd H3 t2 (.tup [.ref pa, xs[i]])) (.ref t2) (prD (wayR eb ib (pb ++ [((i : Nat) : Int)], r))) := .tup (SqT.of upd_same) (.cons (Tn.same s34 hpT) (.cons hxi .nil))
    have hs4 := hs.trans s14
    generalize upd H3 t2 (.tup [.ref pa, xs[i]]) = H4 at s34 s14 hy4 hyT4 hxi hpr hs4
    refine ⟨l, ys, _, rfl, rfl, hy4, small1000 (by omega), ?_⟩
    have hs5 : Same H (upd H4 l (.lst (ys ++ [.ref t2]))) := Same.own hs4 hnl
    have tk5 : TK H4 (upd H4 l (.lst (ys ++ [.ref t2]))) := TK.upd (by rw [hy4]; trivial)
    have hy5 : upd H4 l (.lst (ys ++ [.ref t2])) l = some (.lst (ys ++ [.ref t2])) := upd_same
    have hT5 : TnAll K (upd H4 l (.lst (ys ++ [.ref t2]))) (ys ++ [.ref t2]) (((prsRs (rs.take i) pb 0).map (wayR eb ib)).map prD ++ [prD (wayR eb ib (pb ++ [((i : Nat) : Int)], r))]) := TnAll.append (TnAll.keep tk5 hyT4) (TnAll.one (Tn.keep tk5 hpr))
    have hx5 := Tn.keep tk5 hxi
    have hl5 : (ys ++ [V.ref t2]).length = cnts (rs.take i) + 1 := by rw [List.length_append, hyl]; rfl
    generalize upd H4 l (.lst (ys ++ [.ref t2])) = H5 at hs5 hy5 hT5 hx5
    generalize ys ++ [V.ref t2] = ys5 at hy5 hl5 hT5
    cases hi2 : isIte r with
    | false =>
      obtain ⟨ar, zs, exr, hSr, h0⟩ := row_at (Tn.dp hx5)
      rw [exr] at hix
      refine ⟨_, rfl, _, rfl, a, _, (i : Nat), .ref ar, rfl, rfl, SqT.same hs5 hS, atI_nat hix, ar, _, 0, _, rfl, rfl, hSr, atI_nat (j := 0) h0, rfl, _, rfl, ?_⟩
      exact if_false_of ((tag_if r).trans hi2) ⟨_, l, ys5, rfl, hs5, hnl, hy5, by rw [ptk, prsR_flat hi2, List.map_append, List.map_append]; exact hT5⟩
    | true =>
      cases r with
      | ite sl u y n' =>
        obtain ⟨ar, vy, vn, exr, hSr, hyD, hnD⟩ := ite_tn hx5
        rw [exr] at hix
        unfold okR at okr
        have ecn : Td.cnt (Td.Row.ite sl u y n') = 1 + cnts y + cnts n' := by unfold Td.cnt; rfl
        have epr : prsR (Td.Row.ite sl u y n') pb i = (pb ++ [((i : Nat) : Int)], .ite sl u y n') :: (prsRs y (pb ++ [((i : Nat) : Int), 0]) 0 ++ prsRs n' (pb ++ [((i : Nat) : Int), 1]) 0) := by simp only [prsR]
        refine ⟨_, rfl, _, rfl, a, _, (i : Nat), .ref ar, rfl, rfl, SqT.same hs5 hS, atI_nat hix, ar, _, 0, _, rfl, rfl, hSr, rfl, rfl, _, rfl, ?_⟩
        refine if_true_of (by decide +kernel) ?_
        refine ⟨_, rfl, _, rfl, _, rfl, a, _, (i : Nat), .ref ar, rfl, rfl, SqT.same hs5 hS, atI_nat hix, ar, _, 3, _, rfl, rfl, hSr, rfl, _, rfl, _, rfl, by show 2 ≤ sizeLine; decide, fun t3 ht3 => ?_⟩
        have s56 := Same.new ht3 (.tup [.int (i : Nat), .int 0])
        refine cat_all (SqT.same (hs5.trans s56) hB) (SqT.of upd_same) (Nat.le_of_lt (small1000 (by show _ + 2 ≤ 1000; omega))) (fun pb1 H6 s6 hP6 => ?_)
        have s66 := s56.trans s6
        have hs6 := hs5.trans s66
        refine ⟨vy, pb1, eb, ib, pb ++ [((i : Nat) : Int), 0], S, dep + 1, y, rfl, Tn.same s66 hyD, ?_, by simp; omega, okr.2.2.2.1, by omega, by omega, by omega, fun p2 ws H7 s7 hp2 hw hwT => ?_⟩
        · have : (Way.mk eb ib (pb ++ [((i : Nat) : Int), 0])).vs = (Way.mk eb ib pb).vs ++ [.int (i : Nat), .int 0] := by unfold Way.vs; rw [List.map_append]; rfl
          rw [this]; exact hP6
        have s67 := s66.trans s7
        have hy7 := s67 _ _ hy5
        have hwl : ws.length = cnts y := by rw [hwT.length, List.length_map, List.length_map, prsRs_len]
        refine ⟨l, p2, ys5, ws, rfl, rfl, hy7, hw, Nat.le_of_lt (small1000 (by omega)), fun p3 hp3 => ?_⟩
        have s78 := Same.new hp3 (.lst (ys5 ++ ws))
        have hs8 := (hs5.trans s67).trans s78
        have hy8 : upd H7 p3 (.lst (ys5 ++ ws)) p3 = some (.lst (ys5 ++ ws)) := upd_same
        have hT8 := TnAll.append (TnAll.keep (TK.of_same (s67.trans s78)) hT5) (TnAll.keep (TK.of_same s78) hwT)
        have hl8 : (ys5 ++ ws).length = cnts (rs.take i) + 1 + cnts y := by rw [List.length_append, hl5, hwl]
        have s58 := s67.trans s78
        generalize upd H7 p3 (.lst (ys5 ++ ws)) = H8 at hs8 hy8 hT8 s58
        generalize ys5 ++ ws = ys8 at hy8 hT8 hl8
        refine ⟨_, rfl, _, rfl, a, _, (i : Nat), .ref ar, rfl, rfl, SqT.same hs8 hS, atI_nat hix, ar, _, 4, _, rfl, rfl, SqT.same s58 hSr, rfl, _, rfl, _, rfl, by show 2 ≤ sizeLine; decide, fun t4 ht4 => ?_⟩
        have s89 := Same.new ht4 (.tup [.int (i : Nat), .int 1])
        refine cat_all (SqT.same (hs8.trans s89) hB) (SqT.of upd_same) (Nat.le_of_lt (small1000 (by show _ + 2 ≤ 1000; omega))) (fun pb2 H10 s10 hP10 => ?_)
        have s810 := s89.trans s10
        have hs10 := hs8.trans s810
        refine ⟨vn, pb2, eb, ib, pb ++ [((i : Nat) : Int), 1], S, dep + 1, n', rfl, Tn.same (s58.trans s810) hnD, ?_, by simp; omega, okr.2.2.2.2, by omega, by omega, by omega, fun p4 ws3 H11 s11 hp4 hw3 hwT3 => ?_⟩
        · have : (Way.mk eb ib (pb ++ [((i : Nat) : Int), 1])).vs = (Way.mk eb ib pb).vs ++ [.int (i : Nat), .int 1] := by unfold Way.vs; rw [List.map_append]; rfl
          rw [this]; exact hP10
        have s811 := s810.trans s11
        have hy11 := s811 _ _ hy8
        have hwl3 : ws3.length = cnts n' := by rw [hwT3.length, List.length_map, List.length_map, prsRs_len]
        refine ⟨p3, p4, ys8, ws3, rfl, rfl, hy11, hw3, Nat.le_of_lt (small1000 (by omega)), fun p5 hp5 => ?_⟩
        have s12 := Same.new hp5 (.lst (ys8 ++ ws3))
        refine ⟨_, p5, ys8 ++ ws3, rfl, (hs8.trans s811).trans s12, free_of' (hs8.trans s811) hp5, upd_same, ?_⟩
        rw [ptk, epr]
        have := TnAll.append (TnAll.keep (TK.of_same (s811.trans s12)) hT8) (TnAll.keep (TK.of_same s12) hwT3)
        simpa [wayR] using this
      | _ => cases hi2
  · rintro σ H1 ⟨v3, l, ys, rfl, hs, hnl, hy, hyT⟩
    rw [Int.toNat_natCast, hl, List.take_length] at hyT
    exact ⟨_, rfl, q l ys H1 hs hnl hy hyT⟩
theorem ok_prs (T : Tops w K mg) : ∀ k, FnOk P w K mg base CX0 k T.a__law_paths T.d__law_paths ["_law_rows_here", "_law_path"] (spPrs K k)
  | 0 => by
    have no : ∀ vs H Q E, ¬ spPrs K 0 vs H Q E := fun vs H Q E h => by
      obtain ⟨_, _, _, _, _, _, dep, _, _, _, _, _, _, _, h1, h2, _⟩ := h
      omega
    exact ⟨fun vs H Q E h => absurd h (no vs H Q E), fun A outer s H args us vs Q E _ _ _ _ h => absurd h (no vs H Q E)⟩
  | k + 1 => ok_prs1 T (ok_prs T k)
theorem ok_prs_all (T : Tops w K mg) (G__law_paths : FnOk P w K mg base CX0 4 T.a__law_paths T.d__law_paths ["_law_rows_here", "_law_path"] (spPrs K 4)) :
    FnOk P w K mg base CX0 5 T.a__law_all_paths T.d__law_all_paths ["_law_parts_here"] (spPrsAll K) := by
  refine T.F__law_all_paths.ok sc_law_all_paths (fun vs H Q E h => ?_) (fun cdv A outer s H vs Q E hr h => ?_)
  · obtain ⟨v, p, m, rfl, _⟩ := h
    rfl
  obtain ⟨v, p, m, rfl, hD, ok, hm, q⟩ := h
  obtain ⟨pa, aw, as, vd, ve, rfl, hP, h1, h2, h3, h4⟩ := parts_at hD
  obtain ⟨ad, xs, rfl, hA, hl, hx⟩ := pairs_at h3
  obtain ⟨ae, ys, rfl, hA2, hl2, hx2⟩ := pairs_at h4
  obtain ⟨f1, f2⟩ := few_rows ok hm
  have d6 := ok.d6
  have e4 := ok.e4
  refine ⟨_, (pss_cons (ps_set (i := 1) sc_law_all_paths.nd rfl (Or.inl rfl) (pe_lst pa_nil))
    (pss_cons (ps_for PassesOwn.never rfl (pi_range1 rfl T.z_range (pa_cons (pe_callB call_len rfl T.z_len PySem.boot_len (pa_cons (pe_ix ix_tup (pv 0) pe_int (fun _ _ => rfl)) pa_nil)) pa_nil)) (pg_name (i := 2) sc_law_all_paths.nd rfl (Or.inl rfl)) (pss_one (ps_set (i := 1) sc_law_all_paths.nd rfl (Or.inl rfl) (pe_op op_cat (pv 1) (pe_call G__law_paths (hr.mono (by omega)) rfl T.m__law_paths T.F__law_paths.kp T.b__law_paths .nil pass0 (pa_cons (pe_ix ix_tup (pe_ix ix_tup (pe_ix ix_tup (pv 0) pe_int (fun _ _ => rfl)) (pv 2) (fun _ _ => rfl)) pe_int (fun _ _ => rfl)) (pa_cons (pe_tup (pa_cons pe_str (pa_cons (pv 2) pa_nil))) pa_nil)))))))
    (pss_cons (ps_for PassesOwn.never rfl (pi_range1 rfl T.z_range (pa_cons (pe_callB call_len rfl T.z_len PySem.boot_len (pa_cons (pe_ix ix_tup (pv 0) pe_int (fun _ _ => rfl)) pa_nil)) pa_nil)) (pg_name (i := 2) sc_law_all_paths.nd rfl (Or.inl rfl)) (pss_one (ps_set (i := 1) sc_law_all_paths.nd rfl (Or.inl rfl) (pe_op op_cat (pv 1) (pe_call G__law_paths (hr.mono (by omega)) rfl T.m__law_paths T.F__law_paths.kp T.b__law_paths .nil pass0 (pa_cons (pe_ix ix_tup (pe_ix ix_tup (pe_ix ix_tup (pv 0) pe_int (fun _ _ => rfl)) (pv 2) (fun _ _ => rfl)) pe_int (fun _ _ => rfl)) (pa_cons (pe_tup (pa_cons pe_str (pa_cons (pv 2) pa_nil))) pa_nil)))))))
    (pss_one (ps_ret (pv 1)))))), ?_⟩
  refine ⟨by show 0 ≤ sizeLine; decide, fun l0 hl0 => ?_⟩
  have s1 := Same.new hl0 (.lst [])
  refine ⟨_, rfl, pa, _, 2, _, rfl, rfl, SqT.same s1 hP, rfl, .ref ad, _, rfl, .inr ⟨_, SqT.same s1 hA, rfl⟩, ((xs.length : Nat) : Int), rfl, by omega, by omega, for_range (lo := 0) (n := ((xs.length : Nat) : Int).toNat)
    (fun i σ H' => ∃ (v2 : Option V) (l : Addr) (us : List V), σ = [some (.ref pa), some (.ref l), v2] ∧ Same H H' ∧ H l = none ∧ H' l = some (.lst us) ∧ TnAll K H' us ((prsP false (p.derived.take i) 0).map prD))
    ⟨none, l0, [], rfl, s1, hl0, upd_same, by simp only [List.take_zero, prsP]; exact .nil⟩ ?_ ?_⟩
  · rintro i σ H1 hi ⟨v2, l, us, rfl, hs, hnl, hu, huT⟩
    rw [Int.toNat_natCast] at hi
    rw [show (0 : Int) + (i : Nat) = (i : Nat) by omega]
    have hix : xs[i]? = some xs[i] := List.getElem?_eq_getElem hi
    obtain ⟨qq, b, vr, hq, ex, hB, hT⟩ := hx i _ hix
    rw [ex] at hix
    have p1 := prsP_len (e := false) (ps := p.derived.take i) (k := 0) (fun q hq => f1 q (List.mem_of_mem_take hq))
    have p2 := huT.length
    rw [List.length_map] at p2
    rw [List.length_take] at p1
    refine ⟨_, rfl, _, rfl, pa, _, 2, _, rfl, rfl, SqT.same hs hP, rfl, _, rfl, ad, _, (i : Nat), .ref b, rfl, rfl, SqT.same hs hA, atI_nat hix, b, _, 1, _, rfl, rfl, SqT.same hs hB, rfl, _, rfl, by show 2 ≤ sizeLine; decide, fun tb htb => ?_⟩
    have s12 := Same.new htb (.tup [.str "derived", .int (i : Nat)])
    have hcq := f1 qq (List.mem_of_getElem? hq)
    refine ⟨vr, tb, false, i, [], _, 1, qq.2, rfl, Tn.same (hs.trans s12) hT, SqT.of upd_same, by show 0 ≤ 2; decide, (okDer_get ok.der hq).1, by omega, by omega, by omega, fun p2 ws H3 s3 hp2 hw hwT => ?_⟩
    have s13 := s12.trans s3
    have hu3 := s13 _ _ hu
    have hwl : ws.length = cnts qq.2 := by rw [hwT.length, List.length_map, List.length_map, prsRs_len]
    refine ⟨l, p2, us, ws, rfl, rfl, hu3, hw, Nat.le_of_lt (small1000 (by omega)), fun p3 hp3 => ?_⟩
    have s34 := Same.new hp3 (.lst (us ++ ws))
    refine ⟨_, p3, us ++ ws, rfl, (hs.trans s13).trans s34, free_of' (hs.trans s13) hp3, upd_same, ?_⟩
    rw [prsP_take hq, List.map_append]
    exact TnAll.append (TnAll.keep (TK.of_same (s13.trans s34)) huT) (TnAll.keep (TK.of_same s34) hwT)
  · rintro σ H1 ⟨v2, l, us, rfl, hs, hnl, hu, huT⟩
    rw [Int.toNat_natCast, hl, List.take_length] at huT
    have pd1 := prsP_len (e := false) (k := 0) f1
    refine ⟨_, rfl, pa, _, 3, _, rfl, rfl, SqT.same hs hP, rfl, .ref ae, _, rfl, .inr ⟨_, SqT.same hs hA2, rfl⟩, ((ys.length : Nat) : Int), rfl, by omega, by omega, for_range (lo := 0) (n := ((ys.length : Nat) : Int).toNat)
      (fun i σ H' => ∃ (v2 : Option V) (l : Addr) (us : List V), σ = [some (.ref pa), some (.ref l), v2] ∧ Same H H' ∧ H l = none ∧ H' l = some (.lst us) ∧ TnAll K H' us ((prsP false p.derived 0).map prD ++ (prsP true (p.effects.take i) 0).map prD))
      ⟨v2, l, us, rfl, hs, hnl, hu, by simpa only [List.take_zero, prsP, List.map_nil, List.append_nil] using huT⟩ ?_ ?_⟩
    · rintro i σ H1 hi ⟨v2, l, us, rfl, hs, hnl, hu, huT⟩
      rw [Int.toNat_natCast] at hi
      rw [show (0 : Int) + (i : Nat) = (i : Nat) by omega]
      have hix : ys[i]? = some ys[i] := List.getElem?_eq_getElem hi
      obtain ⟨qq, b, vr, hq, ex, hB, hT⟩ := hx2 i _ hix
      rw [ex] at hix
      have p1 := prsP_len (e := true) (ps := p.effects.take i) (k := 0) (fun q hq => f2 q (List.mem_of_mem_take hq))
      have p2 := huT.length
      rw [List.length_append, List.length_map, List.length_map] at p2
      rw [List.length_take] at p1
      refine ⟨_, rfl, _, rfl, pa, _, 3, _, rfl, rfl, SqT.same hs hP, rfl, _, rfl, ae, _, (i : Nat), .ref b, rfl, rfl, SqT.same hs hA2, atI_nat hix, b, _, 1, _, rfl, rfl, SqT.same hs hB, rfl, _, rfl, by show 2 ≤ sizeLine; decide, fun tb htb => ?_⟩
      have s12 := Same.new htb (.tup [.str "effects", .int (i : Nat)])
      have hcq := f2 qq (List.mem_of_getElem? hq)
      refine ⟨vr, tb, true, i, [], _, 1, qq.2, rfl, Tn.same (hs.trans s12) hT, SqT.of upd_same, by show 0 ≤ 2; decide, (okEff_get ok.eff hq).1, by omega, by omega, by omega, fun p2 ws H3 s3 hp2 hw hwT => ?_⟩
      have s13 := s12.trans s3
      have hu3 := s13 _ _ hu
      have hwl : ws.length = cnts qq.2 := by rw [hwT.length, List.length_map, List.length_map, prsRs_len]
      refine ⟨l, p2, us, ws, rfl, rfl, hu3, hw, Nat.le_of_lt (small1000 (by omega)), fun p3 hp3 => ?_⟩
      have s34 := Same.new hp3 (.lst (us ++ ws))
      refine ⟨_, p3, us ++ ws, rfl, (hs.trans s13).trans s34, free_of' (hs.trans s13) hp3, upd_same, ?_⟩
      rw [prsP_take hq, List.map_append, ← List.append_assoc]
      exact TnAll.append (TnAll.keep (TK.of_same (s13.trans s34)) huT) (TnAll.keep (TK.of_same s34) hwT)
    · rintro σ H1 ⟨v2, l, us, rfl, hs, hnl, hu, huT⟩
      rw [Int.toNat_natCast, hl2, List.take_length] at huT
      exact ⟨_, rfl, q l us H1 hs hnl hu (by unfold prsAll; rw [List.map_append]; exact huT)⟩
end
end K80
namespace K80
open PySem PySem.Spec PyProof.Rows L2 Td
def isRdO : Option Td.Row → Bool
  | some (.rd false _ _) => true
  | _ => false
theorem tag_read (r : Td.Row) : decide (V.str (rowTag r) = V.str "read") = isRdO (some r) := by
  cases r with
  | rd pk c s =>
    cases pk
    · show decide (V.str "read" = V.str "read") = true; decide +kernel
    · show decide (V.str "peek" = V.str "read") = false; decide +kernel
  | put => show decide (V.str "put" = V.str "read") = false; decide +kernel
  | give => show decide (V.str "give" = V.str "read") = false; decide +kernel
  | say => show decide (V.str "say" = V.str "read") = false; decide +kernel
  | wr => show decide (V.str "write" = V.str "read") = false; decide +kernel
  | ite => show decide (V.str "if" = V.str "read") = false; decide +kernel
/-- the changes at a row -/
def chsOf (c : Way × Td.Row) : List (Bool × Way) := if isRdO (some c.2) then (if c.1.e then [(true, c.1)] else []) ++ [(false, c.1)] else []
def chsAll (p : PP) : List (Bool × Way) := (prsAll p).flatMap chsOf
theorem chsOf_at {c : Way × Td.Row} {d : Bool × Way} (h : d ∈ chsOf c) : d.2 = c.1 ∧ (∃ x s, c.2 = .rd false x s) ∧ (d.1 = true → c.1.e = true) := by
  unfold chsOf at h
  split at h
  · rename_i hr
    refine ⟨?_, ?_, ?_⟩
    · rcases List.mem_append.mp h with h | h
      · split at h
        · rw [List.mem_singleton.mp h]
        · cases h
      · rw [List.mem_singleton.mp h]
    · obtain ⟨a, r⟩ := c
      cases r with
      | rd pk x s =>
        cases pk with
        | false => exact ⟨x, s, rfl⟩
        | true => cases hr
      | _ => cases hr
    · intro hd
      rcases List.mem_append.mp h with h | h
      · split at h
        · rename_i he; exact he
        · cases h
      · rw [List.mem_singleton.mp h] at hd; cases hd
  · cases h
theorem chsOf_len (c : Way × Td.Row) : (chsOf c).length ≤ 2 := by unfold chsOf; split <;> (try split) <;> simp
theorem chsOf_nd (c : Way × Td.Row) : (chsOf c).Nodup := by unfold chsOf; split <;> (try split) <;> simp
theorem chs_len : ∀ l : List (Way × Td.Row), (l.flatMap chsOf).length ≤ 2 * l.length
  | [] => by simp
  | c :: l => by
    have h1 := chsOf_len c
    have h2 := chs_len l
    rw [List.flatMap_cons, List.length_append, List.length_cons]
    omega
theorem chs_nd : ∀ l : List (Way × Td.Row), (l.map (·.1)).Nodup → (l.flatMap chsOf).Nodup
  | [], _ => by simp
  | c :: l, h => by
    rw [List.map_cons, List.nodup_cons] at h
    rw [List.flatMap_cons, List.nodup_append]
    refine ⟨chsOf_nd c, chs_nd l h.2, fun a ha b hb e => ?_⟩
    obtain ⟨d, hd, hb⟩ := List.mem_flatMap.mp hb
    have h1 := (chsOf_at ha).1
    have h2 := (chsOf_at hb).1
    rw [e, h2] at h1
    exact h.1 (List.mem_map.mpr ⟨d, hd, h1⟩)
theorem chsAll_ok {p : PP} {m : Nat} (ok : p.Ok m) {L : List (Bool × Way)} (h : ∀ c ∈ L, c ∈ chsAll p) : ChOk p L ∧ ∀ c ∈ L, c.2.st.length ≤ 2 * m := by
  refine ⟨⟨fun c hc => ?_, fun c hc hk => ?_⟩, fun c hc => ?_⟩
  · obtain ⟨d, hd, hcd⟩ := List.mem_flatMap.mp (h c hc)
    obtain ⟨e1, ⟨x, s, e2⟩, _⟩ := chsOf_at hcd
    obtain ⟨q, h1, h2, _⟩ := prsAll_at ok hd
    rw [e1]
    exact ⟨q, x, s, h1, by rw [h2, e2]⟩
  · obtain ⟨d, hd, hcd⟩ := List.mem_flatMap.mp (h c hc)
    obtain ⟨e1, _, e3⟩ := chsOf_at hcd
    rw [e1]
    exact e3 hk
  · obtain ⟨d, hd, hcd⟩ := List.mem_flatMap.mp (h c hc)
    obtain ⟨q, h1, h2, h3⟩ := prsAll_at ok hd
    rw [(chsOf_at hcd).1]
    exact h3
theorem pr_tn {K : PySem.W.Frag} {H : Hp} {v : V} {c : Way × Td.Row} (h : Tn K H v (prD c)) : ∃ t b vr, v = .ref t ∧ SqT K H t [.ref b, vr] ∧ SqT K H b c.1.vs ∧ Tn K H vr (rowD c.2) := by
  obtain ⟨t, xs, rfl, hS, hT⟩ := Tn.tup_inv h
  cases hT with
  | cons a1 a2 =>
    cases a2 with
    | cons a3 a4 =>
      cases a4
      obtain ⟨b, rfl, hB⟩ := Way.inv a1
      exact ⟨t, b, _, rfl, hS, hB, a3⟩
theorem tn_erase {K : PySem.W.Frag} {H : Hp} : ∀ {xs : List V} {ds : List PyData} (k : Nat), TnAll K H xs ds → TnAll K H (xs.eraseIdx k) (ds.eraseIdx k)
  | _, _, _, .nil => .nil
  | _, _, 0, .cons _ b => b
  | _, _, k + 1, .cons a b => .cons a (tn_erase k b)
theorem erase_map {α β : Type} (f : α → β) : ∀ (l : List α) (k : Nat), (l.map f).eraseIdx k = (l.eraseIdx k).map f
  | [], k => rfl
  | x :: l, 0 => rfl
  | x :: l, k + 1 => by show f x :: (l.map f).eraseIdx k = _; rw [erase_map f l k]; rfl
theorem perm_erase {α : Type} : ∀ (l : List α) (k : Nat) {c : α}, l[k]? = some c → List.Perm l (c :: l.eraseIdx k)
  | [], k, c, h => by simp at h
  | x :: l, 0, c, h => by cases h; exact List.Perm.refl _
  | x :: l, k + 1, c, h => ((perm_erase l k (by simpa using h)).cons x).trans (List.Perm.swap ..)
def spLawChs (K : PySem.W.Frag) : Sp := fun vs H Q _ => ∃ (v : V) (p : PP) (m : Nat), vs = [v] ∧ Tn K H v p.data ∧ p.Ok m ∧ m ≤ 16 ∧
  ∀ (l : Addr) (cs : List V) H', Same H H' → H l = none → H' l = some (.lst cs) → TnAll K H' cs ((chsAll p).map chgD) → Q (.ref l) H'
def spChosen (K : PySem.W.Frag) : Sp := fun vs H Q _ => ∃ (st sc l0 : Addr) (cs : List V) (L0 : List (Bool × Way)) (n : Nat), vs = [.ref st, .ref l0, .int (n : Nat)] ∧ StOk H st sc ∧ l0 ≠ st ∧ H l0 = some (.lst cs) ∧ TnAll K H cs (L0.map chgD) ∧ L0.Nodup ∧ L0.length ≤ 400 ∧ n ≤ 6 ∧
  ∀ (l : Addr) (cs : List V) (L : List (Bool × Way)) H', Keep st H H' → StOk H' st sc → l ≠ st → H' l = some (.lst cs) → TnAll K H' cs (L.map chgD) → L.Nodup → (∀ c ∈ L, c ∈ L0) → L.length ≤ 6 → Q (.ref l) H'
/-- rows of words of the sources -/
def RowsOk (p : PP) (n : Nat) (R : List (List Str)) : Prop := ∀ ws ∈ R, ws.length = n ∧ ∀ z ∈ ws, z ∈ p.words
def spStarts (K : PySem.W.Frag) : Sp := fun vs H Q _ => ∃ (v : V) (p : PP) (m : Nat), vs = [v] ∧ Tn K H v p.data ∧ p.Ok m ∧
  ∀ (l : Addr) (cs : List V) (R : List (List Str)) H', Same H H' → H l = none → H' l = some (.lst cs) → TnAll K H' cs (R.map strsD) → RowsOk p p.sources.length R → Q (.ref l) H'
theorem strs_tn {K : PySem.W.Frag} {H : Hp} {v : V} {ws : List Str} (h : Tn K H v (strsD ws)) : ∃ a, v = .ref a ∧ SqT K H a (ws.map V.str) := by
  obtain ⟨a, xs, rfl, hS, hT⟩ := Tn.tup_inv h
  have inv : ∀ {ws : List Str} {xs : List V}, TnAll K H xs (ws.map PyData.str) → xs = ws.map V.str := by
    intro ws
    induction ws with
    | nil => intro xs h; cases h; rfl
    | cons z r ih => intro xs h; cases h with | cons a b => cases a; rw [ih b]; rfl
  rw [inv hT] at hS
  exact ⟨a, rfl, hS⟩
section
variable {P : Program} {w : World} {K : PySem.W.Frag} {mg : Str → Option Value} {base : Heap}
theorem ok_law_chs (T : Tops w K mg) (G__law_all_paths : FnOk P w K mg base CX0 5 T.a__law_all_paths T.d__law_all_paths ["_law_parts_here"] (spPrsAll K)) :
    FnOk P w K mg base CX0 6 T.a__law_changes T.d__law_changes ["_law_parts_here"] (spLawChs K) := by
  refine T.F__law_changes.ok sc_law_changes (fun vs H Q E h => ?_) (fun cdv A outer s H vs Q E hr h => ?_)
  · obtain ⟨v, p, m, rfl, _⟩ := h
    rfl
  obtain ⟨v, p, m, rfl, hD, ok, hm, q⟩ := h
  refine ⟨_, (pss_cons (ps_set (i := 1) sc_law_changes.nd rfl (Or.inl rfl) (pe_lst pa_nil))
    (pss_cons (ps_for PassesOwn.never rfl (pi_list (pe_call G__law_all_paths (hr.mono (by omega)) rfl T.m__law_all_paths T.F__law_all_paths.kp T.b__law_all_paths .nil pass0 (pa_cons (pv 0) pa_nil))) (pg_name (i := 2) sc_law_changes.nd rfl (Or.inl rfl)) (pss_one (ps_if (pt_cmpR op_eq (pe_ix ix_tup (pe_ix ix_tup (pv 2) pe_int (fun _ _ => rfl)) pe_int (fun _ _ => rfl)) pe_str (nomark _)) (C8.pss_cut (ps_if (pt_cmpR op_eq (pe_ix ix_tup (pe_ix ix_tup (pv 2) pe_int (fun _ _ => rfl)) pe_int (fun _ _ => rfl)) pe_str (nomark _)) (pss_one (ps_expr (pe_bm PySem.F.plainAttrs_list PySem.F.slot_list_append PySem.F.type_list_append mt_append (pv 1) (pa_cons (pe_tup (pa_cons pe_str (pa_cons (pe_ix ix_tup (pv 2) pe_int (fun _ _ => rfl)) pa_nil))) pa_nil)))) pss_nil)
    (pss_one (ps_expr (pe_bm PySem.F.plainAttrs_list PySem.F.slot_list_append PySem.F.type_list_append mt_append (pv 1) (pa_cons (pe_tup (pa_cons pe_str (pa_cons (pe_ix ix_tup (pv 2) pe_int (fun _ _ => rfl)) pa_nil))) pa_nil))))) pss_nil)))
    (pss_one (ps_ret (pv 1))))), ?_⟩
  refine ⟨by show 0 ≤ sizeLine; decide, fun g hg0 => ?_⟩
  have s1 := Same.new hg0 (.lst [])
  refine ⟨_, rfl, v, p, m, rfl, Tn.same s1 hD, ok, hm, fun l xs H2 s2 nl hl hX => ?_⟩
  have eg := s2 _ _ (upd_same : upd H g (.lst []) g = some (.lst []))
  have s12 := s1.trans s2
  have lg : l ≠ g := fun e => by rw [e] at nl; rw [upd_same] at nl; cases nl
  have pl := prsAll_len ok hm
  generalize upd H g (.lst []) = H1 at s1 s2 nl
  refine ⟨l, rfl, ⟨_, SqL.of hl⟩, for_list (K := K) (a := l) (xs := xs) (fun i σ H' => ∃ (v2 : Option V) (us : List V), σ = [some v, some (.ref g), v2] ∧ Same H H' ∧ TK H2 H' ∧ H' l = some (.lst xs) ∧ H' g = some (.lst us) ∧ TnAll K H' us ((((prsAll p).take i).flatMap chsOf).map chgD))
    ⟨none, [], rfl, s12, TK.refl _, hl, eg, .nil⟩ (fun i σ H' _ ⟨_, _, _, _, _, h, _⟩ => SqL.of h) ?_ ?_⟩
  · rintro i x σ H3 hx ⟨v2, us, rfl, s3, tk3, hl3, hg3, hU⟩
    obtain ⟨d, hd1, hd2⟩ := TnAll.get hX hx
    rw [List.getElem?_map] at hd1
    obtain ⟨c, hc, rfl⟩ := Option.map_eq_some_iff.mp hd1
    obtain ⟨t, b, vr, rfl, hT, hB, hR⟩ := pr_tn (Tn.keep tk3 hd2)
    have ec : ((prsAll p).take (i + 1)).flatMap chsOf = ((prsAll p).take i).flatMap chsOf ++ chsOf c := by rw [take_more hc, List.flatMap_append]; simp
    have ul : us.length ≤ 320 := by
      have h1 := hU.length
      rw [List.length_map] at h1
      have h2 := chs_len ((prsAll p).take i)
      have h3 : ((prsAll p).take i).length ≤ 160 := by rw [List.length_take]; omega
      omega
    obtain ⟨ra, zs, rfl, hRa, hz0⟩ := row_at (Tn.dp hR)
    refine ⟨_, rfl, t, _, 1, _, rfl, rfl, hT, rfl, ra, _, 0, _, rfl, rfl, hRa, atI_nat (j := 0) hz0, rfl, _, rfl, ?_⟩
    rw [tag_read]
    cases hr : isRdO (some c.2) with
    | false =>
      refine if_false_of rfl ?_
      refine ⟨_, us, rfl, s3, tk3, hl3, hg3, ?_⟩
      rw [ec, show chsOf c = [] by unfold chsOf; rw [hr]; rfl, List.append_nil]
      exact hU
    | true =>
      refine if_true_of rfl ?_
      have a0 : atI c.1.vs 0 = some (.str (kdW c.1.e)) := atI_nat (j := 0) rfl
      refine ⟨fun σ' H' => ∃ us' : List V, σ' = [some v, some (.ref g), some (.ref t)] ∧ Same H H' ∧ TK H3 H' ∧ H' l = some (.lst xs) ∧ H' g = some (.lst us') ∧ us'.length ≤ 321 ∧ TnAll K H' us' ((((prsAll p).take i).flatMap chsOf ++ (if c.1.e then [(true, c.1)] else [])).map chgD), ?_, ?_⟩
      · refine ⟨_, rfl, t, _, 0, _, rfl, rfl, hT, rfl, b, _, 0, _, rfl, rfl, hB, a0, rfl, _, rfl, ?_⟩
        cases he : c.1.e with
        | false =>
          refine if_false_of (by decide +kernel) ?_
          exact ⟨us, rfl, s3, TK.refl _, hl3, hg3, by omega, by simpa using hU⟩
        | true =>
          refine if_true_of (by decide +kernel) ?_
          refine ⟨_, rfl, .inl ⟨rfl, _, SqL.of hg3⟩, ?_⟩
          refine ⟨_, rfl, t, _, 0, _, rfl, rfl, hT, rfl, by show 2 ≤ sizeLine; decide, fun t2 ht2 => ?_⟩
          have z := Same.new ht2 (.tup [V.str "peek", .ref b])
          have hgz := z _ _ hg3
          have hcz : Tn K (upd H3 t2 (.tup [V.str "peek", .ref b])) (.ref t2) (chgD (true, c.1)) := .tup (SqT.of upd_same) (.cons (.str _) (.cons (Way.tn (SqT.same z hB)) .nil))
          refine ⟨g, us, _, rfl, rfl, hgz, small1000 (by omega), ?_⟩
          have tk := TK.upd (p := g) (H := upd H3 t2 (.tup [V.str "peek", .ref b])) (o := .lst (us ++ [.ref t2])) (by rw [hgz]; trivial)
          refine ⟨us ++ [.ref t2], rfl, Same.own (s3.trans z) hg0, (TK.of_same z).trans tk, ?_, upd_same, by rw [List.length_append]; show us.length + 1 ≤ 321; omega, ?_⟩
          · rw [upd_ne lg]; exact z _ _ hl3
          · rw [if_pos rfl, List.map_append]
            exact TnAll.append (TnAll.keep ((TK.of_same z).trans tk) hU) (TnAll.one (Tn.keep tk hcz))
      rintro σ' H4 ⟨us', rfl, s4, tk4, hl4, hg4, ul4, hU4⟩
      have hT4 := SqT.tk tk4 hT
      have hB4 := SqT.tk tk4 hB
      refine ⟨_, rfl, .inl ⟨rfl, _, SqL.of hg4⟩, ?_⟩
      refine ⟨_, rfl, t, _, 0, _, rfl, rfl, hT4, rfl, by show 2 ≤ sizeLine; decide, fun t2 ht2 => ?_⟩
      have z := Same.new ht2 (.tup [V.str "early", .ref b])
      have hgz := z _ _ hg4
      have hcz : Tn K (upd H4 t2 (.tup [V.str "early", .ref b])) (.ref t2) (chgD (false, c.1)) := .tup (SqT.of upd_same) (.cons (.str _) (.cons (Way.tn (SqT.same z hB4)) .nil))
      refine ⟨g, us', _, rfl, rfl, hgz, small1000 (by omega), ?_⟩
      have tk := TK.upd (p := g) (H := upd H4 t2 (.tup [V.str "early", .ref b])) (o := .lst (us' ++ [.ref t2])) (by rw [hgz]; trivial)
      refine ⟨_, us' ++ [.ref t2], rfl, Same.own (s4.trans z) hg0, ((tk3.trans tk4).trans (TK.of_same z)).trans tk, ?_, upd_same, ?_⟩
      · rw [upd_ne lg]; exact z _ _ hl4
      · rw [ec, show chsOf c = (if c.1.e then [(true, c.1)] else []) ++ [(false, c.1)] by unfold chsOf; rw [hr]; rfl, ← List.append_assoc, List.map_append]
        exact TnAll.append (TnAll.keep ((TK.of_same z).trans tk) hU4) (TnAll.one (Tn.keep tk hcz))
  · rintro σ H3 ⟨v2, us, rfl, s3, tk3, hl3, hg3, hU⟩
    have xl : xs.length = (prsAll p).length := by have := hX.length; rwa [List.length_map] at this
    rw [xl, List.take_length] at hU
    exact ⟨_, rfl, q g us H3 s3 hg0 hg3 hU⟩
theorem ok_chosen (T : Tops w K mg) (G__law_draw : FnOk P w K mg base CX0 1 T.a__law_draw T.d__law_draw ["_law_state_here", "_law_many_here"] spDraw) :
    FnOk P w K mg base CX0 2 T.a__law_chosen T.d__law_chosen ["_law_state_here", "_law_rows_here", "_law_many_here"] (spChosen K) := by
  refine T.F__law_chosen.ok sc_law_chosen (fun vs H Q E h => ?_) (fun cdv A outer s H vs Q E hr h => ?_)
  · obtain ⟨st, sc, l0, cs, L0, n, rfl, _⟩ := h
    rfl
  obtain ⟨st, sc, l0, cs, L0, n, rfl, o, n0, hl0, hC, nd, ll, n6, q⟩ := h
  refine ⟨_, (pss_cons (ps_set (i := 3) sc_law_chosen.nd rfl (Or.inl rfl) (pe_callTy call_list_of rfl T.z_list (by decide +kernel) (pa_cons (pv 1) pa_nil)))
    (pss_cons (ps_set (i := 4) sc_law_chosen.nd rfl (Or.inl rfl) (pe_lst pa_nil))
    (pss_cons (ps_for PassesOwn.never rfl (pi_range1 rfl T.z_range (pa_cons (pv 2) pa_nil)) (pg_name (i := 5) sc_law_chosen.nd rfl (Or.inl rfl)) (pss_one (ps_if (pt_cmpR op_gt (pe_callB call_len rfl T.z_len PySem.boot_len (pa_cons (pv 3) pa_nil)) pe_int (nomark _)) (pss_one (ps_expr (pe_bm PySem.F.plainAttrs_list PySem.F.slot_list_append PySem.F.type_list_append mt_append (pv 4) (pa_cons (pe_bm PySem.F.plainAttrs_list PySem.F.slot_list_pop PySem.F.type_list_pop mt_popAt (pv 3) (pa_cons (pe_call G__law_draw (hr.mono (by omega)) rfl T.m__law_draw T.F__law_draw.kp T.b__law_draw .nil pass0 (pa_cons (pv 0) (pa_cons (pe_callB call_len rfl T.z_len PySem.boot_len (pa_cons (pv 3) pa_nil)) pa_nil))) pa_nil)) pa_nil)))) pss_nil)))
    (pss_one (ps_ret (pv 4)))))), ?_⟩
  refine ⟨_, rfl, l0, cs, rfl, .inl (SqL.of hl0), fun rr hrr0 => ?_⟩
  have s1 := Same.new hrr0 (.lst cs)
  refine ⟨by show 0 ≤ sizeLine; decide, fun g hg0 => ?_⟩
  have s2 := Same.new hg0 (.lst [])
  have s12 := s1.trans s2
  have er := s2 _ _ (upd_same : upd H rr (.lst cs) rr = some (.lst cs))
  have rg : rr ≠ g := fun e => by rw [← e, upd_same] at hg0; cases hg0
  have fg : H g = none := free_of' s1 hg0
  have eg : upd (upd H rr (.lst cs)) g (.lst []) g = some (.lst []) := upd_same
  have nrs := (o.ne hrr0)
  have ngs := (o.ne fg)
  generalize upd (upd H rr (.lst cs)) g (.lst []) = H2 at s12 s2 er eg
  refine ⟨_, rfl, _, rfl, by omega, by omega, for_range (lo := 0) (n := ((n : Nat) : Int).toNat)
    (fun i σ H' => ∃ (v5 : Option V) (rs us : List V) (R L : List (Bool × Way)), σ = [some (.ref st), some (.ref l0), some (.int (n : Nat)), some (.ref rr), some (.ref g), v5] ∧ Keep st H H' ∧ StOk H' st sc ∧ H' rr = some (.lst rs) ∧ TnAll K H' rs (R.map chgD) ∧ H' g = some (.lst us) ∧ TnAll K H' us (L.map chgD) ∧ (L ++ R).Nodup ∧ (∀ c ∈ L ++ R, c ∈ L0) ∧ L.length ≤ i ∧ R.length ≤ 400)
    ⟨none, cs, [], L0, [], rfl, Same.keep s12 st, stGo o s12, er, TnAll.keep (TK.of_same s12) hC, eg, .nil, nd, (fun _ h => h), Nat.le_refl _, ll⟩ ?_ ?_⟩
  · rintro i σ H3 hi ⟨v5, rs, us, R, L, rfl, k3, o3, hr3, hR, hg3, hL, nd3, sub, li, rl⟩
    have rsl : rs.length = R.length := by have := hR.length; rwa [List.length_map] at this
    have usl : us.length = L.length := by have := hL.length; rwa [List.length_map] at this
    rw [Int.toNat_natCast] at hi
    refine ⟨_, rfl, .ref rr, _, rfl, .inl ⟨_, SqL.of hr3, rfl⟩, _, _, rfl, rfl, _, rfl, ?_⟩
    by_cases h0 : rs.length = 0
    · refine if_false_of (decide_eq_false (by omega)) ?_
      exact ⟨_, rs, us, R, L, rfl, k3, o3, hr3, hR, hg3, hL, nd3, sub, by omega, rl⟩
    refine if_true_of (decide_eq_true (by omega)) ?_
    refine ⟨_, rfl, .inl ⟨rfl, _, SqL.of hg3⟩, ?_⟩
    refine ⟨_, rfl, .inl ⟨rfl, _, SqL.of hr3⟩, ?_⟩
    refine ⟨_, rfl, _, rfl, .ref rr, _, rfl, .inl ⟨_, SqL.of hr3, rfl⟩, st, sc, _, rfl, by omega, by omega, o3, fun r H4 r0 r1 k4 o4 _ => ?_⟩
    have tk4 := TK.of_keep k4 o3.chg
    have hr4 := k4 _ _ nrs.1 hr3
    have hg4 := k4 _ _ ngs.1 hg3
    obtain ⟨y, hy0⟩ : ∃ y, rs[r.toNat]? = some y := ⟨_, List.getElem?_eq_getElem (by omega)⟩
    have at2 : atI rs r = some y := by
      have : r = ((r.toNat : Nat) : Int) := by omega
      rw [this]
      exact atI_nat hy0
    obtain ⟨k, hk, hy, kl, _⟩ := atI_get at2
    obtain ⟨d, hd1, hd2⟩ := TnAll.get (TnAll.keep tk4 hR) hy
    rw [List.getElem?_map] at hd1
    obtain ⟨c, hc, rfl⟩ := Option.map_eq_some_iff.mp hd1
    refine ⟨rr, rs, r, k, y, rfl, rfl, hr4, by omega, by omega, hk, hy, ?_⟩
    have tk5 : TK H4 (upd H4 rr (.lst (rs.eraseIdx k))) := TK.upd (by rw [hr4]; trivial)
    have hg5 : upd H4 rr (.lst (rs.eraseIdx k)) g = some (.lst us) := by rw [upd_ne (Ne.symm rg)]; exact hg4
    have hr5 : upd H4 rr (.lst (rs.eraseIdx k)) rr = some (.lst (rs.eraseIdx k)) := upd_same
    have k5 : Keep st H (upd H4 rr (.lst (rs.eraseIdx k))) := (k3.trans k4).own hrr0
    have o5 : StOk (upd H4 rr (.lst (rs.eraseIdx k))) st sc := o4.other nrs.1 nrs.2
    generalize upd H4 rr (.lst (rs.eraseIdx k)) = H5 at tk5 hg5 hr5 k5 o5
    refine ⟨g, us, y, rfl, rfl, hg5, small1000 (by omega), ?_⟩
    have tk6 : TK H5 (upd H5 g (.lst (us ++ [y]))) := TK.upd (by rw [hg5]; trivial)
    have tk36 := (tk4.trans tk5).trans tk6
    have pm : List.Perm (L ++ R) ((L ++ [c]) ++ R.eraseIdx k) := by
      rw [List.append_assoc]
      exact List.Perm.append_left L (perm_erase R k hc)
    refine ⟨_, rs.eraseIdx k, us ++ [y], R.eraseIdx k, L ++ [c], rfl, k5.own fg, o5.other ngs.1 ngs.2, ?_, ?_, upd_same, ?_, ?_, ?_, ?_, ?_⟩
    · rw [upd_ne rg]; exact hr5
    · have := tn_erase k (TnAll.keep tk36 hR)
      rw [erase_map] at this
      exact this
    · rw [List.map_append]
      exact TnAll.append (TnAll.keep tk36 hL) (TnAll.one (Tn.keep (tk5.trans tk6) hd2))
    · exact pm.nodup_iff.mp nd3
    · exact fun c hc => sub c (pm.mem_iff.mpr hc)
    · rw [List.length_append]; show L.length + 1 ≤ i + 1; omega
    · exact Nat.le_trans (List.length_eraseIdx_le ..) rl
  · rintro σ H3 ⟨v5, rs, us, R, L, rfl, k3, o3, hr3, hR, hg3, hL, nd3, sub, li, rl⟩
    rw [Int.toNat_natCast] at li
    exact ⟨_, rfl, q g us L H3 k3 o3 ngs.1 hg3 hL (List.nodup_append.mp nd3).1 (fun c hc => sub c (List.mem_append_left _ hc)) (by omega)⟩
theorem ok_starts (T : Tops w K mg) : FnOk P w K mg base CX0 1 T.a__law_starts T.d__law_starts ["_law_parts_here"] (spStarts K) := by
  refine T.F__law_starts.ok sc_law_starts (fun vs H Q E h => ?_) (fun cdv A outer s H vs Q E hr h => ?_)
  · obtain ⟨v, p, m, rfl, _⟩ := h
    rfl
  obtain ⟨v, p, m, rfl, hD, ok, q⟩ := h
  obtain ⟨pa, aw, as, vd, ve, rfl, hP, h1, h2, h3, h4⟩ := parts_at hD
  have s4 := ok.s4
  have w4 := ok.w4
  refine ⟨_, (pss_cons (ps_set (i := 1) sc_law_starts.nd rfl (Or.inl rfl) (pe_lst (pa_cons (pe_tup pa_nil) pa_nil)))
    (pss_cons (ps_for PassesOwn.never rfl (pi_tup (pe_ix ix_tup (pv 0) pe_int (fun _ _ => rfl))) (pg_name (i := 2) sc_law_starts.nd rfl (Or.inl rfl)) (pss_cons (ps_set (i := 3) sc_law_starts.nd rfl (Or.inl rfl) (pe_lst pa_nil))
    (pss_cons (ps_for PassesOwn.never rfl (pi_list (pv 1)) (pg_name (i := 4) sc_law_starts.nd rfl (Or.inl rfl)) (pss_one (ps_for PassesOwn.never rfl (pi_tup (pe_ix ix_tup (pv 0) pe_int (fun _ _ => rfl))) (pg_name (i := 5) sc_law_starts.nd rfl (Or.inl rfl)) (pss_one (ps_expr (pe_bm PySem.F.plainAttrs_list PySem.F.slot_list_append PySem.F.type_list_append mt_append (pv 3) (pa_cons (pe_op op_catA (pv 4) (pe_tup (pa_cons (pv 5) pa_nil))) pa_nil)))))))
    (pss_one (ps_set (i := 1) sc_law_starts.nd rfl (Or.inl rfl) (pv 3))))))
    (pss_one (ps_ret (pv 1))))), ?_⟩
  refine ⟨by show 0 ≤ sizeLine; decide, fun t0 ht0 => ⟨by show 1 ≤ sizeLine; decide, fun l0 hl0 => ?_⟩⟩
  have s1 := Same.new ht0 (.tup [])
  have s2 := Same.new hl0 (.lst [V.ref t0])
  have s02 := s1.trans s2
  have e2 : upd (upd H t0 (.tup [])) l0 (.lst [.ref t0]) l0 = some (.lst [.ref t0]) := upd_same
  have n0 : H l0 = none := free_of' s1 hl0
  have T2 : TnAll K (upd (upd H t0 (.tup [])) l0 (.lst [.ref t0])) [.ref t0] ([[]].map strsD) := .cons (.tup (SqT.of (s2 _ _ upd_same)) .nil) .nil
  try dsimp only
  generalize upd (upd H t0 (.tup [])) l0 (.lst [.ref t0]) = H2 at s2 s02 e2 T2
  refine ⟨_, rfl, pa, _, 1, _, rfl, rfl, SqT.same s02 hP, rfl, as, rfl, ⟨_, SqT.same s02 h2⟩, for_tup (K := K) (a := as) (xs := p.sources.map V.str)
    (fun i σ H' => ∃ (v2 v3 v4 v5 : Option V) (l : Addr) (xs : List V) (R : List (List Str)), σ = [some (.ref pa), some (.ref l), v2, v3, v4, v5] ∧ Same H H' ∧ H l = none ∧ H' l = some (.lst xs) ∧ TnAll K H' xs (R.map strsD) ∧ R.length ≤ 4 ^ i ∧ RowsOk p i R)
    ⟨none, none, none, none, l0, [.ref t0], [[]], rfl, s02, n0, e2, T2, Nat.le_refl _, fun r hr => by rw [List.mem_singleton.mp hr]; exact ⟨rfl, (fun _ h => nomatch h)⟩⟩
    (fun i σ H' _ ⟨_, _, _, _, _, _, _, _, hs, _⟩ => SqT.same hs h2) ?_ ?_⟩
  · rintro i x σ H3 hx ⟨v2, v3, v4, v5, l, xs, R, rfl, hs, hn, hl, hT, al, ar⟩
    rw [List.getElem?_map] at hx
    obtain ⟨src, hsrc, rfl⟩ := Option.map_eq_some_iff.mp hx
    have i4 : i < 4 := Nat.lt_of_lt_of_le (List.getElem?_eq_some_iff.mp hsrc).1 s4
    have xl : xs.length = R.length := by have := hT.length; rwa [List.length_map] at this
    have a64 : R.length ≤ 64 := Nat.le_trans al (Nat.le_trans (Nat.pow_le_pow_right (by decide) (by omega : i ≤ 3)) (by decide))
    refine ⟨by show 0 ≤ sizeLine; decide, fun g hg => ?_⟩
    have s34 := Same.new hg (.lst [])
    refine ⟨_, rfl, l, rfl, ⟨_, SqL.of (s34 _ _ hl)⟩, for_list (K := K) (a := l) (xs := xs)
      (fun k σ H' => ∃ (v4 v5 : Option V) (zs : List V) (Z : List (List Str)), σ = [some (.ref pa), some (.ref l), some (.str src), some (.ref g), v4, v5] ∧ Same H3 H' ∧ H' g = some (.lst zs) ∧ TnAll K H' zs (Z.map strsD) ∧ RowsOk p (i + 1) Z ∧ Z.length ≤ 4 * k)
      ⟨v4, v5, [], [], rfl, s34, upd_same, .nil, (fun _ h => nomatch h), Nat.le_refl _⟩ (fun k σ H' _ ⟨_, _, _, _, _, hs3, _⟩ => SqL.of (hs3 _ _ hl)) ?_ ?_⟩
    · rintro k x σ H5 hx ⟨v4, v5, zs, Z, rfl, hs5, hz, hzT, zok, zl⟩
      obtain ⟨d, hd1, hd2⟩ := TnAll.get hT hx
      rw [List.getElem?_map] at hd1
      obtain ⟨row, hrow, rfl⟩ := Option.map_eq_some_iff.mp hd1
      obtain ⟨rb, rfl, hR⟩ := strs_tn hd2
      obtain ⟨rl, rw'⟩ := ar row (List.mem_of_getElem? hrow)
      have kl : k < R.length := (List.getElem?_eq_some_iff.mp hrow).1
      have h05 := hs.trans hs5
      refine ⟨_, rfl, pa, _, 0, _, rfl, rfl, SqT.same h05 hP, rfl, aw, rfl, ⟨_, SqT.same h05 h1⟩, for_tup (K := K) (a := aw) (xs := p.words.map V.str)
        (fun j σ H' => ∃ (v5 : Option V) (zs : List V) (Z : List (List Str)), σ = [some (.ref pa), some (.ref l), some (.str src), some (.ref g), some (.ref rb), v5] ∧ Same H3 H' ∧ H' g = some (.lst zs) ∧ TnAll K H' zs (Z.map strsD) ∧ RowsOk p (i + 1) Z ∧ Z.length ≤ 4 * k + j)
        ⟨v5, zs, Z, rfl, hs5, hz, hzT, zok, by omega⟩ (fun j σ H' _ ⟨_, _, _, _, hs6, _⟩ => SqT.same (hs.trans hs6) h1) ?_ ?_⟩
      · rintro j y σ H6 hy ⟨v5, zs, Z, rfl, hs6, hz, hzT, zok, zl⟩
        rw [List.getElem?_map] at hy
        obtain ⟨c, hc, rfl⟩ := Option.map_eq_some_iff.mp hy
        have jl : j < p.words.length := (List.getElem?_eq_some_iff.mp hc).1
        have zsl : zs.length = Z.length := by have := hzT.length; rwa [List.length_map] at this
        refine ⟨_, rfl, .inl ⟨rfl, _, SqL.of hz⟩, ?_⟩
        refine ⟨_, rfl, _, rfl, by show 1 ≤ sizeLine; decide, fun tc htc => ?_⟩
        have s78 := Same.new htc (.tup [V.str c])
        refine cat_all (SqT.same (hs6.trans s78) hR) (SqT.of upd_same) (Nat.le_of_lt (small1000 (by rw [List.length_map]; show row.length + 1 ≤ 1000; omega))) (fun nc H9 s9 hnc => ?_)
        have s79 := s78.trans s9
        have hz9 := s79 _ _ hz
        have tk9 : TK H9 (upd H9 g (.lst (zs ++ [.ref nc]))) := TK.upd (by rw [hz9]; trivial)
        refine ⟨g, zs, _, rfl, rfl, hz9, small1000 (by omega), ?_⟩
        have e4 : row.map V.str ++ [V.str c] = (row ++ [c]).map V.str := by rw [List.map_append]; rfl
        rw [e4] at hnc
        refine ⟨_, zs ++ [.ref nc], Z ++ [row ++ [c]], rfl, Same.own (hs6.trans s79) hg, upd_same, ?_, ?_, by rw [List.length_append]; show Z.length + 1 ≤ _; omega⟩
        · rw [List.map_append]
          exact TnAll.append (TnAll.keep ((TK.of_same s79).trans tk9) hzT) (TnAll.one (.tup (SqT.tk tk9 hnc) (TnAll.strs _)))
        · intro ws hws
          rcases List.mem_append.mp hws with h | h
          · exact zok ws h
          · rw [List.mem_singleton.mp h]
            refine ⟨by rw [List.length_append, rl]; rfl, fun z hz => ?_⟩
            rcases List.mem_append.mp hz with hz | hz
            · exact rw' z hz
            · rw [List.mem_singleton.mp hz]; exact List.mem_of_getElem? hc
      · rintro σ H6 ⟨v5, zs, Z, rfl, hs6, hz, hzT, zok, zl⟩
        rw [List.length_map] at zl
        exact ⟨_, _, zs, Z, rfl, hs6, hz, hzT, zok, by omega⟩
    · rintro σ H5 ⟨v4, v5, zs, Z, rfl, hs5, hz, hzT, zok, zl⟩
      refine ⟨_, rfl, ?_⟩
      refine ⟨_, _, _, _, g, zs, Z, rfl, hs.trans hs5, free_of' hs hg, hz, hzT, ?_, zok⟩
      rw [Nat.pow_succ]
      have : Z.length ≤ 4 * R.length := by rw [← xl]; exact zl
      omega
  · rintro σ H3 ⟨v2, v3, v4, v5, l, xs, R, rfl, hs, hn, hl, hT, al, ar⟩
    rw [List.length_map] at ar
    exact ⟨_, rfl, q l xs R H3 hs hn hl hT ar⟩
end
end K80
namespace K80
open PySem PySem.Spec PyProof.Rows L2 Td
theorem mem_prs {rs : List Td.Row} {k : Nat} {r : Td.Row} (h : rs[k]? = some r) (pb : List Int) {x : List Int × Td.Row} (hx : x ∈ prsR r pb k) : x ∈ prsRs rs pb 0 := by
  have e : rs = rs.take (k + 1) ++ rs.drop (k + 1) := (List.take_append_drop ..).symm
  rw [e, prsRs_append, prsRs_take h]
  exact List.mem_append_left _ (List.mem_append_right _ hx)
theorem self_prs (r : Td.Row) (pb : List Int) (k : Nat) : (pb ++ [((k : Nat) : Int)], r) ∈ prsR r pb k := by
  cases r <;> simp [prsR]
/-- every row comes with its path -/
theorem prs_all : ∀ (st : List Int) {rs : List Td.Row} {r : Td.Row} (pb : List Int), rowAt rs st = some r → (pb ++ st, r) ∈ prsRs rs pb 0
  | [], rs, r, pb, h => by unfold rowAt at h; cases h
  | [i], rs, r, pb, h => by
    obtain ⟨k, rfl, e⟩ := rowAt_one h
    exact mem_prs e pb (self_prs r pb k)
  | i :: j :: st, rs, r, pb, h => by
    obtain ⟨k, s, u, y, n, rfl, e1, e2⟩ := rowAt_two h
    refine mem_prs e1 pb ?_
    unfold prsR
    rcases e2 with ⟨rfl, e2⟩ | ⟨rfl, e2⟩
    · have := prs_all st (pb ++ [((k : Nat) : Int), 0]) e2
      rw [List.append_assoc] at this
      exact List.mem_cons_of_mem _ (List.mem_append_left _ this)
    · have := prs_all st (pb ++ [((k : Nat) : Int), 1]) e2
      rw [List.append_assoc] at this
      exact List.mem_cons_of_mem _ (List.mem_append_right _ this)
theorem addC_len : ∀ (cs E : List Str), (cs.foldl addC E).length ≤ E.length + cs.length
  | [], E => Nat.le_refl _
  | c :: cs, E => by
    have h := addC_len cs (addC E c)
    have h2 : (addC E c).length ≤ E.length + 1 := by
      unfold addC
      split
      · omega
      · rw [List.length_append]; exact Nat.le_refl _
    rw [List.foldl_cons, List.length_cons]
    omega
/-- the early cells of a body, by the changes so far -/
def accE (q : Str × List Td.Row) (L : List (Bool × Way)) (e : Bool) (i k : Nat) : List Str := (earlyCs q.2 (ownC (L.take k) e i)).foldl addC []
def hitE (c : Bool × Way) (e : Bool) (i : Nat) : Bool := !c.1 && (decide (c.2.e = e) && decide (c.2.i = i))
theorem accE_len (q : Str × List Td.Row) (L : List (Bool × Way)) (e : Bool) (i k : Nat) : (accE q L e i k).length ≤ k := by
  unfold accE
  have h1 := addC_len (earlyCs q.2 (ownC (L.take k) e i)) []
  have h2 : (earlyCs q.2 (ownC (L.take k) e i)).length ≤ (ownC (L.take k) e i).length := by unfold earlyCs; rw [List.length_map]; exact List.length_filter_le ..
  have h3 := ownC_len (L.take k) e i
  rw [List.length_take] at h3
  rw [List.length_nil] at h1
  omega
theorem accE_more {q : Str × List Td.Row} {L : List (Bool × Way)} {e : Bool} {i k : Nat} {c : Bool × Way} (h : L[k]? = some c) : accE q L e i (k + 1) = if hitE c e i then addC (accE q L e i k) (cellOf (rowAt q.2 c.2.st)) else accE q L e i k := by
  unfold accE
  rw [take_more h]
  unfold ownC
  rw [List.filter_append, List.map_append]
  unfold hitE
  by_cases h1 : (decide (c.2.e = e) && decide (c.2.i = i)) = true
  · simp only [List.filter_cons, List.filter_nil]
    rw [if_pos h1, h1, Bool.and_true]
    unfold earlyCs
    rw [List.filter_append, List.map_append, List.foldl_append]
    cases hc : c.1 with
    | false => simp [hc]
    | true => simp [hc]
  · have h2 : (decide (c.2.e = e) && decide (c.2.i = i)) = false := Bool.eq_false_iff.mpr h1
    simp only [List.filter_cons, List.filter_nil]
    rw [if_neg h1, h2, Bool.and_false, List.map_nil, List.append_nil, if_neg Bool.false_ne_true]
theorem chg_eqv (c d : Bool × Way) : PyData.eqv (chgD c) (chgD d) = decide (c = d) := by
  rw [Bool.eq_iff_iff, decide_eq_true_eq]
  exact ⟨chg_inj, fun h => by rw [h]; exact SeqAt.eqv_refl _ (chg_lay d).1⟩
def spEarly (K : PySem.W.Frag) : Sp := fun vs H Q _ => ∃ (v : V) (p : PP) (m : Nat) (l : Addr) (cs : List V) (L : List (Bool × Way)) (e : Bool) (i : Nat) (q : Str × List Td.Row), vs = [v, .ref l, .str (kdW e), .int (i : Nat)] ∧ Tn K H v p.data ∧ p.Ok m ∧ m ≤ 16 ∧ H l = some (.lst cs) ∧ TnAll K H cs (L.map chgD) ∧ L.length ≤ 6 ∧ ChOk p L ∧ (bodiesOf p e)[i]? = some q ∧
  ∀ (g : Addr) H', Same H H' → H g = none → H' g = some (.lst (((earlyCs q.2 (ownC L e i)).foldl addC []).map V.str)) → Q (.ref g) H'
section
variable {P : Program} {w : World} {K : PySem.W.Frag} {mg : Str → Option Value} {base : Heap}
theorem ok_early (T : Tops w K mg) (G__law_paths : FnOk P w K mg base CX0 4 T.a__law_paths T.d__law_paths ["_law_rows_here", "_law_path"] (spPrs K 4)) :
    FnOk P w K mg base CX0 5 T.a__law_early_cells T.d__law_early_cells ["_law_parts_here", "_law_chosen_here", "_law_kind", "_law_at"] (spEarly K) := by
  refine T.F__law_early_cells.ok sc_law_early_cells (fun vs H Q E h => ?_) (fun cdv A outer s H vs Q E hr h => ?_)
  · obtain ⟨v, p, m, l, cs, L, e, i, q, rfl, _⟩ := h
    rfl
  obtain ⟨v, p, m, l, cs, L, e, i, qq, rfl, hD, ok, hm, hl, hC, ll, hch, hq, q⟩ := h
  obtain ⟨pa, aw, as, vd, ve, rfl, hP, h1, h2, h3, h4⟩ := parts_at hD
  obtain ⟨ad, dxs, rfl, hA, hdl, hdx⟩ := pairs_at h3
  obtain ⟨ae, exs, rfl, hA2, hel, hex⟩ := pairs_at h4
  have hcq : cnts qq.2 ≤ m := bodies_cnt ok hq
  obtain ⟨S, okq⟩ : ∃ S, okRs S 1 qq.2 := by
    cases e with
    | false => exact ⟨_, (okDer_get ok.der hq).1⟩
    | true => exact ⟨_, (okEff_get ok.eff hq).1⟩
  have cl : cs.length = L.length := by have := hC.length; rwa [List.length_map] at this
  obtain ⟨ac, ys, b, vr, hAC, hAt, hix, hB, hT⟩ : ∃ (ac : Addr) (ys : List V) (b : Addr) (vr : V), SqT K H ac ys ∧ atI [V.ref aw, .ref as, .ref ad, .ref ae] (if e then 3 else 2) = some (.ref ac) ∧ ys[i]? = some (.ref b) ∧ SqT K H b [.str qq.1, vr] ∧ Tn K H vr (.tuple (rowsD qq.2)) := by
    cases e with
    | false =>
      have il : i < dxs.length := by rw [hdl]; exact (List.getElem?_eq_some_iff.mp hq).1
      obtain ⟨q2, b, vr, e1, e2, e3, e4⟩ := hdx i _ (List.getElem?_eq_getElem il)
      obtain rfl : q2 = qq := Option.some.inj (e1.symm.trans hq)
      exact ⟨ad, dxs, b, vr, hA, rfl, by rw [List.getElem?_eq_getElem il, e2], e3, e4⟩
    | true =>
      have il : i < exs.length := by rw [hel]; exact (List.getElem?_eq_some_iff.mp hq).1
      obtain ⟨q2, b, vr, e1, e2, e3, e4⟩ := hex i _ (List.getElem?_eq_getElem il)
      obtain rfl : q2 = qq := Option.some.inj (e1.symm.trans hq)
      exact ⟨ae, exs, b, vr, hA2, rfl, by rw [List.getElem?_eq_getElem il, e2], e3, e4⟩
  refine ⟨_, (pss_cons (ps_set (i := 4) sc_law_early_cells.nd rfl (Or.inl rfl) (pe_lst pa_nil))
    (pss_cons (ps_for PassesOwn.never rfl (pi_list (pv 1)) (pg_name (i := 5) sc_law_early_cells.nd rfl (Or.inl rfl)) (pss_one (ps_for PassesOwn.never rfl (pi_list (pe_call G__law_paths (hr.mono (by omega)) rfl T.m__law_paths T.F__law_paths.kp T.b__law_paths .nil pass0 (pa_cons (pe_ix ix_tup (pe_ix ix_tup (pe_ifExp (pt_cmpR op_eq (pv 2) pe_str (nomark _)) (pe_ix ix_tup (pv 0) pe_int (fun _ _ => rfl)) (pe_ix ix_tup (pv 0) pe_int (fun _ _ => rfl))) (pv 3) (fun _ _ => rfl)) pe_int (fun _ _ => rfl)) (pa_cons (pe_tup (pa_cons (pv 2) (pa_cons (pv 3) pa_nil))) pa_nil)))) (pg_name (i := 6) sc_law_early_cells.nd rfl (Or.inl rfl)) (pss_one (ps_if (PW.pt (pw_and (pt_cmpR (op_eqD hr.units) (pv 5) (pe_tup (pa_cons pe_str (pa_cons (pe_ix ix_tup (pv 6) pe_int (fun _ _ => rfl)) pa_nil))) (nomark _)) (pw_and1 (pt_cmpR op_notIn_seq (pe_ix ix_tup (pe_ix ix_tup (pv 6) pe_int (fun _ _ => rfl)) pe_int (fun _ _ => rfl)) (pv 4) (by rfl))))) (pss_one (ps_expr (pe_bm PySem.F.plainAttrs_list PySem.F.slot_list_append PySem.F.type_list_append mt_append (pv 4) (pa_cons (pe_ix ix_tup (pe_ix ix_tup (pv 6) pe_int (fun _ _ => rfl)) pe_int (fun _ _ => rfl)) pa_nil)))) pss_nil)))))
    (pss_one (ps_ret (pv 4))))), ?_⟩
  refine ⟨by show 0 ≤ sizeLine; decide, fun g hg0 => ?_⟩
  have s1 := Same.new hg0 (.lst [])
  have eg : upd H g (.lst []) g = some (.lst []) := upd_same
  have lg : l ≠ g := fun z => by rw [z, hg0] at hl; cases hl
  generalize upd H g (.lst []) = H1 at s1 eg
  refine ⟨_, rfl, l, rfl, ⟨_, SqL.of (s1 _ _ hl)⟩, for_list (K := K) (a := l) (xs := cs)
    (fun k σ H' => ∃ (v5 v6 : Option V), σ = [some (.ref pa), some (.ref l), some (.str (kdW e)), some (.int (i : Nat)), some (.ref g), v5, v6] ∧ Same H H' ∧ TK H1 H' ∧ H' g = some (.lst ((accE qq L e i k).map V.str)))
    ⟨none, none, rfl, s1, TK.refl _, eg⟩ (fun k σ H' _ ⟨_, _, _, hs, _⟩ => SqL.of (hs _ _ hl)) ?_ ?_⟩
  · rintro k x σ H2 hx ⟨v5, v6, rfl, s2, tk2, hg2⟩
    obtain ⟨d, hd1, hd2⟩ := TnAll.get hC hx
    rw [List.getElem?_map] at hd1
    obtain ⟨c, hc, rfl⟩ := Option.map_eq_some_iff.mp hd1
    obtain ⟨tc, wb, rfl, hTc, hWb⟩ := chg_tn hd2
    have hd2c := hd2
    have kl : k < L.length := (List.getElem?_eq_some_iff.mp hc).1
    have al := accE_len qq L e i k
    have hP2 := SqT.same s2 hP
    have sel : ∀ Q' : VK, Q' (.ref ac) H2 → tIf (tTest (tOp rEq (tVar 2) (tC (V.str "derived")))) (tOp (rIxT K) (tVar 0) (tC (V.int 2))) (tOp (rIxT K) (tVar 0) (tC (V.int 3))) [some (.ref pa), some (.ref l), some (.str (kdW e)), some (.int (i : Nat)), some (.ref g), some (.ref tc), v6] H2 Q' := fun Q' hQ => by
      refine ⟨_, rfl, rfl, _, rfl, ?_⟩
      cases e with
      | false => exact if_true_of (by decide +kernel) ⟨_, rfl, pa, _, 2, _, rfl, rfl, hP2, hAt, hQ⟩
      | true => exact if_false_of (by decide +kernel) ⟨_, rfl, pa, _, 3, _, rfl, rfl, hP2, hAt, hQ⟩
    refine sel _ ?_
    refine ⟨_, rfl, ac, ys, (i : Nat), .ref b, rfl, rfl, SqT.same s2 hAC, atI_nat hix, b, _, 1, _, rfl, rfl, SqT.same s2 hB, rfl, _, rfl, _, rfl, by show 2 ≤ sizeLine; decide, fun tb htb => ?_⟩
    have s23 := Same.new htb (.tup [V.str (kdW e), V.int (i : Nat)])
    refine ⟨vr, tb, e, i, [], S, 1, qq.2, rfl, Tn.same (s2.trans s23) hT, SqT.of upd_same, by show 0 ≤ 2; decide, okq, by omega, by omega, by omega, fun pl us H4 s4 npl hpl hU => ?_⟩
    have s24 := s23.trans s4
    have hg4 := s24 _ _ hg2
    have nplg : pl ≠ g := fun z => by rw [z] at npl; have := s23 _ _ hg2; rw [npl] at this; cases this
    have ul : us.length = (prsRs qq.2 [] 0).length := by have := hU.length; rwa [List.length_map, List.length_map] at this
    have ucn : us.length ≤ 16 := by rw [ul, prsRs_len]; omega
    obtain ⟨x0, hx0⟩ : ∃ x0, x0 = cellOf (rowAt qq.2 c.2.st) := ⟨_, rfl⟩
    refine ⟨pl, rfl, ⟨_, SqL.of hpl⟩, for_list (K := K) (a := pl) (xs := us)
      (fun j σ H' => ∃ (v6 : Option V), σ = [some (.ref pa), some (.ref l), some (.str (kdW e)), some (.int (i : Nat)), some (.ref g), some (.ref tc), v6] ∧ Same H H' ∧ TK H4 H' ∧ H' pl = some (.lst us) ∧
        H' g = some (.lst ((if (((prsRs qq.2 [] 0).map (wayR e i)).take j).any (fun d => decide (c = (false, d.1))) then addC (accE qq L e i k) x0 else accE qq L e i k).map V.str)))
      ⟨v6, rfl, s2.trans s24, TK.refl _, hpl, hg4⟩ (fun j σ H' _ ⟨_, _, _, _, h, _⟩ => SqL.of h) ?_ ?_⟩
    · rintro j x σ H5 hx ⟨v6, rfl, s5, tk5, hpl5, hg5⟩
      obtain ⟨d0, hd1, hd2⟩ := TnAll.get hU hx
      rw [List.getElem?_map] at hd1
      obtain ⟨d, hd, rfl⟩ := Option.map_eq_some_iff.mp hd1
      obtain ⟨t, bw, vr2, rfl, hTp, hBw, hRw⟩ := pr_tn (Tn.keep tk5 hd2)
      have more : (((prsRs qq.2 [] 0).map (wayR e i)).take (j + 1)).any (fun d => decide (c = (false, d.1))) = ((((prsRs qq.2 [] 0).map (wayR e i)).take j).any (fun d => decide (c = (false, d.1))) || decide (c = (false, d.1))) := by
        rw [take_more hd, List.any_append]
        simp
      obtain ⟨B, hB0⟩ : ∃ B, B = (((prsRs qq.2 [] 0).map (wayR e i)).take j).any (fun d => decide (c = (false, d.1))) := ⟨_, rfl⟩
      rw [← hB0] at hg5
      have s0 := s5
      refine ⟨_, rfl, _, rfl, t, _, 0, _, rfl, rfl, hTp, rfl, by show 2 ≤ sizeLine; decide, fun t2 ht2 => ?_⟩
      have z := Same.new ht2 (.tup [V.str "early", .ref bw])
      have hcz : Tn K (upd H5 t2 (.tup [V.str "early", .ref bw])) (.ref t2) (chgD (false, d.1)) := .tup (SqT.of upd_same) (.cons (.str _) (.cons (Way.tn (SqT.same z hBw)) .nil))
      have hc5 : Tn K (upd H5 t2 (.tup [V.str "early", .ref bw])) (.ref tc) (chgD c) := Tn.same (s5.trans z) hd2c
      refine ⟨chgD c, chgD (false, d.1), Tn.dp hc5, Tn.dp hcz, chg_shaped _, chg_shaped _, _, rfl, ?_⟩
      have s6 := s5.trans z
      have tk6 := tk5.trans (TK.of_same z)
      have hpl6 := z _ _ hpl5
      have hg6 := z _ _ hg5
      have hTp6 := SqT.same z hTp
      have hRw6 := Tn.same z hRw
      generalize upd H5 t2 (.tup [V.str "early", V.ref bw]) = H6 at s6 tk6 hpl6 hg6 hTp6 hRw6
      rw [chg_eqv]
      by_cases hit : c = (false, d.1)
      · rw [decide_eq_true hit]
        refine if_true_of rfl ?_
        rw [decide_eq_true hit, Bool.or_true] at more
        obtain ⟨qx, xc, scx, hqx, hrow⟩ := hch.at_ c (List.mem_of_getElem? hc)
        have ewe : d.1.e = e := by obtain ⟨z1, _, rfl⟩ := List.mem_map.mp (List.mem_of_getElem? hd); rfl
        have ewi : d.1.i = i := by obtain ⟨z1, _, rfl⟩ := List.mem_map.mp (List.mem_of_getElem? hd); rfl
        have ec2 : c.2 = d.1 := by rw [hit]
        rw [ec2, ewe, ewi, hq] at hqx
        obtain rfl := Option.some.inj hqx
        have hrd : rowAt qq.2 d.1.st = some d.2 := by
          obtain ⟨z1, hz1, ez⟩ := List.mem_map.mp (List.mem_of_getElem? hd)
          obtain ⟨j', st', e1, h1, _⟩ := prs_atL qq.2 [] 0 qq.2 [] rfl rfl z1 hz1
          rw [← ez]
          show rowAt qq.2 z1.1 = some z1.2
          rw [e1]
          exact h1
        rw [ec2, hrd] at hrow
        have er : d.2 = .rd false xc scx := Option.some.inj hrow
        rw [er] at hRw6
        obtain ⟨ra, rfl, hRa⟩ := rd_tn hRw6
        have ex0 : x0 = xc := by rw [hx0, ec2, hrd, er]; rfl
        refine ⟨_, rfl, t, _, 1, _, rfl, rfl, hTp6, rfl, ra, _, 1, _, rfl, rfl, hRa, rfl, _, rfl, g, _, rfl, .inl (SqL.of hg6), rfl, L2.flat_strs _, _, rfl, ?_⟩
        rw [inV_strs]
        obtain ⟨Y, hY⟩ : ∃ Y, Y = (if B then addC (accE qq L e i k) x0 else accE qq L e i k) := ⟨_, rfl⟩
        rw [← hY] at hg6 ⊢
        have fin : (if (true : Bool) then addC (accE qq L e i k) x0 else accE qq L e i k) = addC Y xc := by
          rw [hY, ex0, if_pos rfl]
          cases B with
          | false => rfl
          | true =>
            rw [if_pos rfl]
            unfold addC
            by_cases hm : xc ∈ accE qq L e i k
            · rw [if_pos hm, if_pos hm]
            · rw [if_neg hm, if_pos (List.mem_append_right _ List.mem_cons_self)]
        have yl : Y.length ≤ 8 := by
          rw [hY]
          cases B with
          | false => rw [if_neg Bool.false_ne_true]; omega
          | true =>
            rw [if_pos rfl]
            have := addC_len [x0] (accE qq L e i k)
            simp only [List.foldl_cons, List.foldl_nil, List.length_cons, List.length_nil] at this
            omega
        by_cases hm : xc ∈ Y
        · refine if_false_of (by rw [decide_eq_true hm]; rfl) ?_
          refine ⟨_, rfl, s6, tk6, hpl6, ?_⟩
          rw [more, fin]
          unfold addC
          rw [if_pos hm]
          exact hg6
        · refine if_true_of (by rw [decide_eq_false hm]; rfl) ?_
          refine ⟨_, rfl, .inl ⟨rfl, _, SqL.of hg6⟩, ?_⟩
          refine ⟨_, rfl, t, _, 1, _, rfl, rfl, hTp6, rfl, ra, _, 1, _, rfl, rfl, hRa, rfl, ?_⟩
          refine ⟨g, _, _, rfl, rfl, hg6, small1000 (by rw [List.length_map]; omega), ?_⟩
          refine ⟨_, rfl, Same.own s6 hg0, tk6.trans (TK.upd (by rw [hg6]; trivial)), by rw [upd_ne nplg]; exact hpl6, ?_⟩
          rw [upd_same, more, fin]
          unfold addC
          rw [if_neg hm, List.map_append]
          rfl
      · rw [decide_eq_false hit]
        refine if_false_of rfl ?_
        rw [decide_eq_false hit, Bool.or_false] at more
        refine ⟨_, rfl, s6, tk6, hpl6, ?_⟩
        rw [more, ← hB0]
        exact hg6
    · rintro σ H5 ⟨v6, rfl, s5, tk5, hpl5, hg5⟩
      refine ⟨_, _, rfl, s5, (tk2.trans (TK.of_same s24)).trans tk5, ?_⟩
      rw [hg5, accE_more hc, ul, ← List.length_map (f := wayR e i), List.take_length, hx0]
      have : ((prsRs qq.2 [] 0).map (wayR e i)).any (fun d => decide (c = (false, d.1))) = hitE c e i := by
        rw [Bool.eq_iff_iff, List.any_eq_true]
        unfold hitE
        constructor
        · rintro ⟨d, hd, ed⟩
          have ed := of_decide_eq_true ed
          obtain ⟨z1, _, rfl⟩ := List.mem_map.mp hd
          rw [ed]
          show (!false && (decide (e = e) && decide (i = i))) = true
          rw [decide_eq_true rfl, decide_eq_true rfl]; rfl
        · intro h
          rw [Bool.and_eq_true, Bool.and_eq_true, decide_eq_true_eq, decide_eq_true_eq] at h
          obtain ⟨g1, g2, g3⟩ := h
          obtain ⟨qx, xc, scx, hqx, hrow⟩ := hch.at_ c (List.mem_of_getElem? hc)
          rw [g2, g3, hq] at hqx
          obtain rfl := Option.some.inj hqx
          refine ⟨wayR e i (c.2.st, .rd false xc scx), List.mem_map_of_mem (prs_all c.2.st [] hrow), decide_eq_true ?_⟩
          refine Prod.ext (by simpa using g1) ?_
          show c.2 = ⟨e, i, c.2.st⟩
          rw [← g2, ← g3]
      rw [this]
  · rintro σ H2 ⟨v5, v6, rfl, s2, tk2, hg2⟩
    rw [cl] at hg2
    unfold accE at hg2
    rw [List.take_length] at hg2
    exact ⟨_, rfl, q g H2 s2 hg0 hg2⟩
end
end K80
namespace K80
open PySem PySem.Spec PyProof.Rows L2 Td
/-- noted and peeked cells are among C -/
def keysIn (C : List Str) (st : RS) : Prop := ∀ p ∈ st.noted ++ st.peeked, p.1 ∈ C
mutual
theorem keys_R {C : List Str} {S : Sc} {kn : Str → Str} {d : Str} (hS : ∀ c ∈ S.readable, c ∈ C) : ∀ (r : Td.Row) (dep : Nat) (st : RS), okR S dep r → keysIn C st → keysIn C (runR kn d r st).1
  | .rd pk c s, dep, st, ok, h => by
    unfold okR at ok
    have hc := hS c ok.2.1
    have hg : ∀ L : Td.Env, (∀ p ∈ L, p.1 ∈ C) → ∀ p ∈ sdE L c (kn c), p.1 ∈ C := fun L hL p hp => by
      rcases sd_mem hp with q | ⟨e1, _⟩
      · exact hL p q
      · rw [e1]; exact hc
    have hn : ∀ p ∈ st.noted, p.1 ∈ C := fun p hp => h p (List.mem_append_left _ hp)
    have hp : ∀ p ∈ st.peeked, p.1 ∈ C := fun p hp => h p (List.mem_append_right _ hp)
    simp only [runR]
    intro p hp'
    rcases List.mem_append.mp hp' with q | q
    · cases pk
      · exact hg _ hn p q
      · exact hn p q
    · cases pk
      · exact hp p q
      · exact hg _ hp p q
  | .put s u, dep, st, ok, h => by simp only [runR]; exact h
  | .give s, dep, st, ok, h => by simp only [runR]; exact h
  | .say s, dep, st, ok, h => by simp only [runR]; exact h
  | .wr c s, dep, st, ok, h => by simp only [runR]; exact h
  | .ite s u y n, dep, st, ok, h => by
    unfold okR at ok
    simp only [runR]
    split
    · exact keys_Rs hS y (dep + 1) st ok.2.2.2.1 h
    · exact keys_Rs hS n (dep + 1) st ok.2.2.2.2 h
theorem keys_Rs {C : List Str} {S : Sc} {kn : Str → Str} {d : Str} (hS : ∀ c ∈ S.readable, c ∈ C) : ∀ (rs : List Td.Row) (dep : Nat) (st : RS), okRs S dep rs → keysIn C st → keysIn C (runRs kn d rs st).1
  | [], dep, st, ok, h => by simp only [runRs]; exact h
  | r :: rs, dep, st, ok, h => by
    unfold okRs at ok
    have h1 := keys_R hS (kn := kn) (d := d) r dep st ok.1 h
    by_cases hb : (runR kn d r st).2 = true
    · rw [runRs_yes _ hb]; exact h1
    · rw [runRs_no _ hb]; exact keys_Rs hS rs dep _ ok.2 h1
end
theorem rs0_nm {d : Str} (hd : isNm d = true) : (rs0 d).Nm :=
  ⟨fun _ h => (nomatch h), fun _ h => (nomatch h), fun _ h => (nomatch h), fun _ h => (nomatch h), fun _ h => (nomatch h), hd⟩
theorem d0_nm {p : PP} {m : Nat} (ok : p.Ok m) : isNm (d0 p) = true := by
  have h := ok.w2
  unfold d0
  cases hw : p.words with
  | nil => rw [hw] at h; simp at h
  | cons z r => exact ok.wn.good z (by rw [hw]; exact List.mem_cons_self)
theorem knF_mem {kn : Td.Env} {c : Str} (h : (getE kn c).isSome = true) : ∃ q ∈ kn, q.2 = knF kn c := by
  obtain ⟨u, hu⟩ := Option.isSome_iff_exists.mp h
  obtain ⟨q, hq, e⟩ := get_has hu
  exact ⟨q, hq, by unfold knF; rw [hu]; exact e⟩
theorem cell_nm {p : PP} {m : Nat} (ok : p.Ok m) {c : Str} (h : c ∈ p.sources ∨ c ∈ p.derived.map (·.1)) : isNm c = true := by
  refine ok.nn.good c ?_
  unfold PP.names
  rcases h with h | h
  · exact List.mem_append_left _ (List.mem_append_left _ h)
  · exact List.mem_append_left _ (List.mem_append_right _ h)
/-- all the told words are names -/
theorem tell_nm {p : PP} {m : Nat} {ws : List Str} (ok : p.Ok m) (hl : ws.length = p.sources.length) (hw : ∀ z ∈ ws, z ∈ p.words) : ∀ i, ∀ q ∈ tell (d0 p) (p.sources.zip ws) (p.derived.take i), isNm q.2 = true
  | 0, q, hq => by
    rw [List.take_zero] at hq
    have : q.2 ∈ ws := (List.of_mem_zip (show (q.1, q.2) ∈ p.sources.zip ws from hq)).2
    exact ok.wn.good _ (hw _ this)
  | i + 1, q, hq => by
    by_cases hi : i < p.derived.length
    · have hq2 : p.derived[i]? = some p.derived[i] := List.getElem?_eq_getElem hi
      rw [take_more hq2, tell_snoc] at hq
      have ih := tell_nm ok hl hw i
      rcases put_mem hq with h | ⟨_, h⟩
      · exact ih q h
      · rw [h]
        obtain ⟨okd, _⟩ := okDer_get ok.der hq2
        refine (nm_Rs (S := ⟨false, p.words, p.sources, p.sources ++ (p.derived.take i).map (·.1)⟩) ⟨fun c hc => ?_, fun c hc => cell_nm ok (.inl hc), ok.wn.good⟩ (d0_nm ok) _ 1 _ okd (rs0_nm (d0_nm ok))).gi
        have hcell : c ∈ p.sources ∨ c ∈ (p.derived.take i).map (·.1) := List.mem_append.mp hc
        have hs : (getE (tell (d0 p) (p.sources.zip ws) (p.derived.take i)) c).isSome = true := tell_has _ _ _ _ (hcell.elim (fun h => .inl (zip_has h hl.symm)) .inr)
        obtain ⟨r, hr, e⟩ := knF_mem hs
        refine ⟨cell_nm ok (hcell.imp id fun h => ?_), by rw [← e]; exact ih r hr⟩
        obtain ⟨y, hy, e⟩ := List.mem_map.mp h
        exact List.mem_map.mpr ⟨y, List.mem_of_mem_take hy, e⟩
    · rw [List.take_of_length_le (by omega)] at hq
      exact tell_nm ok hl hw i q (by rw [List.take_of_length_le (by omega)]; exact hq)
/-- what a body's run gives -/
theorem run_facts {p : PP} {m : Nat} {ws : List Str} {q : Str × List Td.Row} (ok : p.Ok m) (hm : m ≤ 16) (hl : ws.length = p.sources.length) (hw : ∀ z ∈ ws, z ∈ p.words) (hin : q ∈ p.derived ++ p.effects) :
    (runOf p ws q.2).Nm ∧ (runOf p ws q.2).Few 16 ∧ keysIn p.cells (runOf p ws q.2) := by
  have gen : ∀ S : Sc, okRs S 1 q.2 → (∀ c ∈ S.readable, c ∈ p.cells) → S.sources = p.sources → S.words = p.words → cnts q.2 ≤ m → (runOf p ws q.2).Nm ∧ (runOf p ws q.2).Few 16 ∧ keysIn p.cells (runOf p ws q.2) := fun S okq hr e1 e2 hc => by
    refine ⟨nm_Rs (S := S) ⟨fun c hc => ?_, fun c hc => cell_nm ok (.inl (e1 ▸ hc)), fun c hc => ok.wn.good c (e2 ▸ hc)⟩ (d0_nm ok) q.2 1 _ okq (rs0_nm (d0_nm ok)), ?_, keys_Rs hr q.2 1 _ okq fun x hx => by cases hx⟩
    · have hcell := List.mem_append.mp (hr c hc)
      have hs : (getE (known0 p ws) c).isSome = true := tell_has _ _ _ _ (hcell.elim (fun h => .inl (zip_has h hl.symm)) .inr)
      obtain ⟨r, hr, e⟩ := knF_mem hs
      refine ⟨cell_nm ok hcell, by rw [← e]; exact tell_nm ok hl hw p.derived.length r (by rw [List.take_length]; exact hr)⟩
    · have := few_Rs (knF (known0 p ws)) (d0 p) q.2 (rs0 (d0 p)) 0 (few0 _)
      exact this.mono (by omega)
  rcases List.mem_append.mp hin with h | h
  · obtain ⟨i, hi⟩ := List.getElem?_of_mem h
    obtain ⟨h1, h2⟩ := okDer_get ok.der hi
    refine gen _ h1 (fun c hc => ?_) rfl rfl h2
    rcases List.mem_append.mp hc with hc | hc
    · exact List.mem_append_left _ hc
    · obtain ⟨y, hy, e⟩ := List.mem_map.mp hc
      exact List.mem_append_right _ (List.mem_map.mpr ⟨y, List.mem_of_mem_take hy, e⟩)
  · obtain ⟨i, hi⟩ := List.getElem?_of_mem h
    obtain ⟨h1, h2⟩ := okEff_get ok.eff hi
    exact gen _ h1 (fun c hc => hc) rfl rfl h2
theorem env_at {K : PySem.W.Frag} {H : Hp} {v : V} {L : Td.Env} (h : Tn K H v (envD L)) : ∃ (a : Addr) (xs : List V), v = .ref a ∧ SqT K H a xs ∧ TnAll K H xs (L.map wrD) ∧ xs.length = L.length ∧
    ∀ (i : Nat) (x : V), xs[i]? = some x → ∃ (q : Str × Str) (b : Addr), L[i]? = some q ∧ x = .ref b ∧ SqT K H b [.str q.1, .str q.2] := by
  obtain ⟨a, xs, rfl, hS, hT⟩ := Tn.tup_inv h
  have hl := hT.length
  rw [List.length_map] at hl
  refine ⟨a, xs, rfl, hS, hT, hl, fun i x hx => ?_⟩
  have hi : i < L.length := by rw [← hl]; exact (List.getElem?_eq_some_iff.mp hx).1
  obtain ⟨dd, h1, h2⟩ := TnAll.get hT hx
  rw [List.getElem?_map, List.getElem?_eq_getElem hi] at h1
  cases h1
  obtain ⟨b, ys, rfl, hS2, hT2⟩ := Tn.tup_inv h2
  cases hT2 with
  | cons c1 c2 =>
    cases c1
    cases c2 with
    | cons c3 c4 =>
      cases c3
      cases c4
      exact ⟨_, b, List.getElem?_eq_getElem hi, rfl, hS2⟩
theorem ans_notes (vn vp vs vw : Addr) (vo : V) : valV (ansK vn vp vs vw vo) (.inr "notes") = some (.ref vn) := by kernel_rfl
theorem ans_peeks (vn vp vs vw : Addr) (vo : V) : valV (ansK vn vp vs vw vo) (.inr "peeks") = some (.ref vp) := by kernel_rfl
theorem ans_says (vn vp vs vw : Addr) (vo : V) : valV (ansK vn vp vs vw vo) (.inr "says") = some (.ref vs) := by kernel_rfl
theorem ans_writes (vn vp vs vw : Addr) (vo : V) : valV (ansK vn vp vs vw vo) (.inr "writes") = some (.ref vw) := by kernel_rfl
theorem ans_word (vn vp vs vw : Addr) (vo : V) : valV (ansK vn vp vs vw vo) (.inr "word") = some vo := by kernel_rfl
theorem envD_eqv (L M : Td.Env) : PyData.eqv (envD L) (envD M) = decide (L = M) := by unfold envD; simp only [PyData.eqv, env_eqvAll]
theorem strsD_eqv (L M : List Str) : PyData.eqv (strsD L) (strsD M) = decide (L = M) := by unfold strsD; simp only [PyData.eqv, strs_eqvAll]
theorem envD_lay {L : Td.Env} (h : ∀ p ∈ L, isNm p.1 = true ∧ isNm p.2 = true) : (envD L).canLay0 = true := by unfold envD; simp only [PyData.canLay0, env_lay L h]
theorem strsD_lay {L : List Str} (h : ∀ z ∈ L, isNm z = true) : (strsD L).canLay0 = true := by unfold strsD; simp only [PyData.canLay0, strs_lay L h]
theorem envD_deep (L : Td.Env) : (envD L).depth ≤ 60 := by unfold envD; simp only [PyData.depth]; have := env_deep L; omega
theorem strsD_deep (L : List Str) : (strsD L).depth ≤ 60 := by unfold strsD; simp only [PyData.depth]; have := strs_deep L; omega
def wordD (dv : Bool) (g : Str) : PyData := if dv then .str g else .none
theorem wordD_at {K : PySem.W.Frag} {H : Hp} (dv : Bool) (g : Str) : Dp K H (wordV dv g) (wordD dv g) := by
  cases dv
  · exact .non
  · exact .str g
theorem wordD_eqv (dv : Bool) (g g' : Str) : PyData.eqv (wordD dv g) (wordD dv g') = (!dv || decide (g = g')) := by
  cases dv
  · rfl
  · simp only [wordD, if_true, PyData.eqv]
    rfl
theorem wordD_lay {dv : Bool} {g : Str} (h : isNm g = true) : (wordD dv g).canLay0 = true := by
  cases dv
  · rfl
  · simp only [wordD, if_true, PyData.canLay0, nm_ok h]
theorem shape_of {d : PyData} (h : d.canLay0 = true) (k : d.depth ≤ 60) : SeqAt.shaped d = true := by
  unfold SeqAt.shaped
  rw [h, Bool.true_and]
  exact decide_eq_true (by omega)
theorem ne_same {K : PySem.W.Frag} {H : Hp} {x y : V} {d : PyData} {Q : VK} (h1 : Dp K H x d) (h2 : Dp K H y d) (hc : d.canLay0 = true) (hd : d.depth ≤ 60) (q : Q (.bl false) H) : rNeD K x y H Q :=
  ⟨d, d, h1, h2, shape_of hc hd, shape_of hc hd, by rw [SeqAt.eqv_refl d hc]; exact q⟩
theorem get_of {H : Hp} {a : Addr} {kvs : List (Key × V)} {k : Str} {v : V} (e : H a = some (.dK kvs)) (g : valV kvs (.inr k) = some v) : DGet H a (.str k) (some v) := by
  have h := DGet.k (k := .inr k) e
  rw [g] at h
  exact h
theorem wordD_deep (dv : Bool) (g : Str) : (wordD dv g).depth ≤ 60 := by cases dv <;> simp [wordD, PyData.depth]
/-- a run and its changed one, with the early cells -/
structure Alike (st st' : RS) (E : List Str) : Prop where
  n1 : st.Nm
  n2 : st'.Nm
  f1 : st.Few 16
  f2 : st'.Few 16
  sa : st'.said = st.said
  wr : st'.written = st.written
  gi : st'.given = st.given
  pre : E <+: st'.noted.map (·.1)
  sub : ∀ x ∈ st.noted ++ st.peeked, x ∈ st'.noted ++ st'.peeked
def spSameRun (K : PySem.W.Frag) : Sp := fun vs H Q _ => ∃ (a1 a2 g : Addr) (st st' : RS) (dv : Bool) (E : List Str), vs = [.ref a1, .ref a2, .ref g] ∧ AnsAt K H a1 st dv ∧ AnsAt K H a2 st' dv ∧ H g = some (.lst (E.map V.str)) ∧ Alike st st' E ∧ ∀ H', Same H H' → Q (.bl true) H'
theorem dp_strs {K : PySem.W.Frag} {H : Hp} {a : Addr} {L : List Str} (h : H a = some (.lst (L.map V.str))) : Dp K H (.ref a) (.list (L.map PyData.str)) := .lst (SqL.of h) (DpAll.strs _)
theorem lstrs_shaped {L : List Str} (h : ∀ z ∈ L, isNm z = true) : SeqAt.shaped (.list (L.map PyData.str)) = true := by
  refine shape_of ?_ ?_
  · simp only [PyData.canLay0, strs_lay L h]
  · simp only [PyData.depth]; have := strs_deep L; omega
/-- what the three keys hold -/
theorem three_at {K : PySem.W.Frag} {H : Hp} {a1 a2 : Addr} {st st' : RS} {dv : Bool} {E : List Str} (h1 : AnsAt K H a1 st dv) (h2 : AnsAt K H a2 st' dv) (al : Alike st st' E) {j : Nat} {x : V} (hx : [V.str "says", .str "writes", .str "word"][j]? = some x) :
    ∃ (z : Str) (v1 v2 : V) (d : PyData), x = .str z ∧ DGet H a1 (.str z) (some v1) ∧ DGet H a2 (.str z) (some v2) ∧ Dp K H v1 d ∧ Dp K H v2 d ∧ d.canLay0 = true ∧ d.depth ≤ 60 := by
  obtain ⟨vn, vp, vs, vw, e, t1, t2, t3, t4⟩ := h1.ex
  obtain ⟨wn, wp, ws, ww, e', u1, u2, u3, u4⟩ := h2.ex
  match j, hx with
  | 0, hx =>
    cases hx
    rw [al.sa] at u3
    exact ⟨"says", _, _, _, rfl, get_of e (ans_says ..), get_of e' (ans_says ..), t3.dp, u3.dp, strsD_lay al.n1.sa, strsD_deep _⟩
  | 1, hx =>
    cases hx
    rw [al.wr] at u4
    exact ⟨"writes", _, _, _, rfl, get_of e (ans_writes ..), get_of e' (ans_writes ..), t4.dp, u4.dp, envD_lay al.n1.wr, envD_deep _⟩
  | 2, hx =>
    cases hx
    have h : Dp K H (wordV dv st'.given) (wordD dv st.given) := by rw [al.gi]; exact wordD_at dv st.given
    exact ⟨"word", _, _, _, rfl, get_of e (ans_word ..), get_of e' (ans_word ..), wordD_at dv st.given, h, wordD_lay al.n1.gi, wordD_deep ..⟩
  | j + 3, hx => simp at hx
section
variable {P : Program} {w : World} {K : PySem.W.Frag} {mg : Str → Option Value} {base : Heap}
theorem ok_same_run (T : Tops w K mg) : FnOk P w K mg base CX0 1 T.a__law_same_run T.d__law_same_run ["_law_one", "_law_other", "_law_cells"] (spSameRun K) := by
  refine T.F__law_same_run.ok sc_law_same_run (fun vs H Q E h => ?_) (fun cdv A outer s H vs Q E hr h => ?_)
  · obtain ⟨a1, a2, g, st, st', dv, E, rfl, _⟩ := h
    rfl
  obtain ⟨a1, a2, g, st, st', dv, E0, rfl, h1, h2, hg, al, q⟩ := h
  refine ⟨_, (pss_cons (ps_for PassesOwn.never rfl (pi_tup (pe_tup (pa_cons pe_str (pa_cons pe_str (pa_cons pe_str pa_nil))))) (pg_name (i := 3) sc_law_same_run.nd rfl (Or.inl rfl)) (pss_one (ps_if (pt_cmpR (op_neD hr.units) (pe_dget (hu_of hr) (pv 0) (pv 3) (fun _ _ => rfl)) (pe_dget (hu_of hr) (pv 1) (pv 3) (fun _ _ => rfl)) (nomark _)) (pss_one (ps_ret pe_bl)) pss_nil)))
    (pss_cons (ps_if (pt_cmpR (op_neD hr.units) (pe_slice sl_list (pe_lc (own := [(("_law_pair" : Str), 5)]) (wi := (iTup K (tDGet (tVar 1) (tC (.str "notes"))))) (g := gName 5) (tt := tYes) (te := (tOp (rIxT K) (tVar 5) (tC (.int 0)))) rfl sc_law_same_run.nd (pi_tup (pe_dget (hu_of hr) (pv 1) pe_str (fun _ _ => rfl))) (blkOk_by (own := [(("_law_pair" : Str), 5)]) (N := N_law_same_run) (sc := defScope s_law_same_run) (by decide +kernel)) (fun _ _ _ _ _ => (pg_name (i := 5) sc_law_same_run.nd rfl (Or.inl rfl))) (fun _ _ _ _ _ => pts_nil) (fun _ _ _ _ _ => (pe_ix (r := (rIxT K)) ix_tup (pv 5) pe_int (fun _ _ => rfl)))) po_none (po_some (pe_callB call_len rfl T.z_len PySem.boot_len (pa_cons (pv 2) pa_nil)))) (pv 2) (nomark _)) (pss_one (ps_ret pe_bl)) pss_nil)
    (pss_cons (ps_set (i := 4) sc_law_same_run.nd rfl (Or.inl rfl) (pe_op op_cat (pe_lc (own := [(("_law_pair" : Str), 5)]) (wi := (iTup K (tDGet (tVar 1) (tC (.str "notes"))))) (g := gName 5) (tt := tYes) (te := (tOp (rIxT K) (tVar 5) (tC (.int 0)))) rfl sc_law_same_run.nd (pi_tup (pe_dget (hu_of hr) (pv 1) pe_str (fun _ _ => rfl))) (blkOk_by (own := [(("_law_pair" : Str), 5)]) (N := N_law_same_run) (sc := defScope s_law_same_run) (by decide +kernel)) (fun _ _ _ _ _ => (pg_name (i := 5) sc_law_same_run.nd rfl (Or.inl rfl))) (fun _ _ _ _ _ => pts_nil) (fun _ _ _ _ _ => (pe_ix (r := (rIxT K)) ix_tup (pv 5) pe_int (fun _ _ => rfl)))) (pe_lc (own := [(("_law_pair" : Str), 5)]) (wi := (iTup K (tDGet (tVar 1) (tC (.str "peeks"))))) (g := gName 5) (tt := tYes) (te := (tOp (rIxT K) (tVar 5) (tC (.int 0)))) rfl sc_law_same_run.nd (pi_tup (pe_dget (hu_of hr) (pv 1) pe_str (fun _ _ => rfl))) (blkOk_by (own := [(("_law_pair" : Str), 5)]) (N := N_law_same_run) (sc := defScope s_law_same_run) (by decide +kernel)) (fun _ _ _ _ _ => (pg_name (i := 5) sc_law_same_run.nd rfl (Or.inl rfl))) (fun _ _ _ _ _ => pts_nil) (fun _ _ _ _ _ => (pe_ix (r := (rIxT K)) ix_tup (pv 5) pe_int (fun _ _ => rfl))))))
    (pss_cons (ps_for PassesOwn.never rfl (pi_tup (pe_op op_catA (pe_dget (hu_of hr) (pv 0) pe_str (fun _ _ => rfl)) (pe_dget (hu_of hr) (pv 0) pe_str (fun _ _ => rfl)))) (pg_name (i := 5) sc_law_same_run.nd rfl (Or.inl rfl)) (pss_one (ps_if (PW.pt (pw_or (pt_cmpR op_notIn_seq (pe_ix ix_tup (pv 5) pe_int (fun _ _ => rfl)) (pv 4) (by rfl)) (pw_or1 (pt_cmpR (op_ninDT (units65 hr)) (pv 5) (pe_op op_catA (pe_dget (hu_of hr) (pv 1) pe_str (fun _ _ => rfl)) (pe_dget (hu_of hr) (pv 1) pe_str (fun _ _ => rfl))) (by rfl))))) (pss_one (ps_ret pe_bl)) pss_nil)))
    (pss_one (ps_ret pe_bl)))))), ?_⟩
  refine ⟨by show 3 ≤ sizeLine; decide, fun t ht => ?_⟩
  have s1 := Same.new ht (.tup [V.str "says", .str "writes", .str "word"])
  refine ⟨t, rfl, ⟨_, SqT.of upd_same⟩, for_tup (K := K) (a := t) (xs := [V.str "says", .str "writes", .str "word"]) (fun i σ H' => ∃ (v3 : Option V), σ = [some (.ref a1), some (.ref a2), some (.ref g), v3, none, none] ∧ Same (upd H t (.tup [V.str "says", .str "writes", .str "word"])) H')
    ⟨none, rfl, Same.refl _⟩ (fun i σ H' _ ⟨_, _, hs⟩ => SqT.same hs (SqT.of upd_same)) ?_ ?_⟩
  · rintro i x σ H2 hx ⟨v3, rfl, s2⟩
    have s02 := s1.trans s2
    obtain ⟨z, v1, v2, d, rfl, d1, d2, e1, e2, lay, dep⟩ := three_at (h1.same s02) (h2.same s02) al hx
    refine ⟨_, rfl, _, rfl, a1, _, rfl, d1, _, rfl, _, rfl, a2, _, rfl, d2, ?_⟩
    refine ne_same e1 e2 lay dep ?_
    exact ⟨_, rfl, if_false_of rfl ⟨_, rfl, s2⟩⟩
  rintro σ H3 ⟨v3, rfl, s3⟩
  have s03 := s1.trans s3
  have g1 := h1.same s03
  have g2 := h2.same s03
  have hg3 := s03 _ _ hg
  generalize upd H t (.tup [V.str "says", .str "writes", .str "word"]) = H1 at s1 s3
  clear h1 h2 s1 s3 hg
  obtain ⟨vn, vp, vs, vw, e, t1, t2, t3, t4⟩ := g1.ex
  obtain ⟨wn, wp, ws, ww, e', u1, u2, u3, u4⟩ := g2.ex
  obtain ⟨n1, xn, z1, hN, hNT, ln, _⟩ := env_at t1
  obtain ⟨n2, xp, z2, hP, hPT, lp, _⟩ := env_at t2
  obtain ⟨m1, yn, z3, hN', hNT', ln', atN⟩ := env_at u1
  obtain ⟨m2, yp, z4, hP', hPT', lp', atP⟩ := env_at u2
  cases z1
  cases z2
  cases z3
  cases z4
  have fn := al.f1.no
  have fp := al.f1.pe
  have fn' := al.f2.no
  have fp' := al.f2.pe
  have gN : ∀ {H' : Hp}, Same H3 H' → DGet H' a2 (.str "notes") (some (.ref wn)) := fun s => get_of (s _ _ e') (ans_notes ..)
  have gP : ∀ {H' : Hp}, Same H3 H' → DGet H' a2 (.str "peeks") (some (.ref wp)) := fun s => get_of (s _ _ e') (ans_peeks ..)
  have eN : ∀ L : List V, ∀ M : Td.Env, L.length = M.length → (L.zip M).map (fun c => V.str c.2.1) = (M.map (·.1)).map V.str := fun L M h => by
    have e1 : M = (L.zip M).map Prod.snd := (List.map_snd_zip (by omega)).symm
    conv => rhs; rw [e1]
    rw [List.map_map, List.map_map]
    rfl
  -- the first cells
  refine ⟨_, rfl, a2, _, rfl, gN (Same.refl _), wn, rfl, ⟨_, hN'⟩, fun D hD => fiS_tup (yn.zip st'.noted) Prod.fst (fun _ => true) (fun c => V.str c.2.1) hN' (zip_fstB ln') (by rw [List.length_zip]; omega) hD ?_ ?_⟩
  · rintro j c H' hc hs Yes No yes no
    obtain ⟨q1, q2⟩ := zip_atB hc
    obtain ⟨r, b, hr1, er, hB⟩ := atN j _ q1
    rw [q2] at hr1
    obtain rfl := Option.some.inj hr1
    show _ ∧ _
    rw [er]
    exact ⟨rfl, tYes_of ⟨_, rfl, b, _, 0, _, rfl, rfl, SqT.same hs hB, rfl, yes rfl _ (Same.refl _)⟩⟩
  rintro H4 s4 hD4
  rw [Td.filter_all, eN yn st'.noted ln'] at hD4
  have hg4 := s4 _ _ hg3
  dsimp only [tNoPart]
  refine ⟨_, rfl, .ref g, _, rfl, .inl ⟨_, SqL.of hg4, rfl⟩, _, rfl, D, _, rfl, SqL.of hD4, fun D2 hD2 => ?_⟩
  have el : (E0.map V.str).length = E0.length := List.length_map ..
  have pl : E0.length ≤ (st'.noted.map (·.1)).length := al.pre.length_le
  rw [cut_to _ _ (by simpa using pl), el, ← List.map_take, ← List.prefix_iff_eq_take.mp al.pre]
  have z5 := Same.new hD2 (.lst (E0.map V.str))
  have ens : ∀ z ∈ E0, isNm z = true := fun z hz => by
    obtain ⟨r, hr, e⟩ := List.mem_map.mp (al.pre.subset hz)
    rw [← e]; exact (al.n2.no r hr).1
  refine ⟨_, rfl, ne_same (dp_strs upd_same) (dp_strs (z5 _ _ hg4)) (SeqAt.canLay_of_shaped (lstrs_shaped ens)) (by simp only [PyData.depth]; have := strs_deep E0; omega) ⟨_, rfl, if_false_of rfl ?_⟩⟩
  have s35 := s4.trans z5
  generalize upd H4 D2 (.lst (E0.map V.str)) = H5 at z5 s35
  -- the heard cells
  have hN5 := SqT.same s35 hN'
  refine ⟨_, rfl, a2, _, rfl, gN s35, wn, rfl, ⟨_, hN5⟩, fun D3 hD3 => fiS_tup (yn.zip st'.noted) Prod.fst (fun _ => true) (fun c => V.str c.2.1) hN5 (zip_fstB ln') (by rw [List.length_zip]; omega) hD3 ?_ ?_⟩
  · rintro j c H' hc hs Yes No yes no
    obtain ⟨q1, q2⟩ := zip_atB hc
    obtain ⟨r, b, hr1, er, hB⟩ := atN j _ q1
    rw [q2] at hr1
    obtain rfl := Option.some.inj hr1
    show _ ∧ _
    rw [er]
    exact ⟨rfl, tYes_of ⟨_, rfl, b, _, 0, _, rfl, rfl, SqT.same (s35.trans hs) hB, rfl, yes rfl _ (Same.refl _)⟩⟩
  rintro H6 s6 hD6
  rw [Td.filter_all, eN yn st'.noted ln'] at hD6
  have s36 := s35.trans s6
  have hP6 := SqT.same s36 hP'
  refine ⟨_, rfl, a2, _, rfl, gP s36, wp, rfl, ⟨_, hP6⟩, fun D4 hD4 => fiS_tup (yp.zip st'.peeked) Prod.fst (fun _ => true) (fun c => V.str c.2.1) hP6 (zip_fstB lp') (by rw [List.length_zip]; omega) hD4 ?_ ?_⟩
  · rintro j c H' hc hs Yes No yes no
    obtain ⟨q1, q2⟩ := zip_atB hc
    obtain ⟨r, b, hr1, er, hB⟩ := atP j _ q1
    rw [q2] at hr1
    obtain rfl := Option.some.inj hr1
    show _ ∧ _
    rw [er]
    exact ⟨rfl, tYes_of ⟨_, rfl, b, _, 0, _, rfl, rfl, SqT.same (s36.trans hs) hB, rfl, yes rfl _ (Same.refl _)⟩⟩
  rintro H7 s7 hD7
  rw [Td.filter_all, eN yp st'.peeked lp'] at hD7
  refine ⟨D3, D4, _, _, rfl, rfl, s7 _ _ hD6, hD7, Nat.le_of_lt (small1000 (by rw [List.length_map, List.length_map, List.length_map, List.length_map]; omega)), fun D5 hD5 => ?_⟩
  have z8 := Same.new hD5 (.lst ((st'.noted.map (·.1)).map V.str ++ (st'.peeked.map (·.1)).map V.str))
  have s38 := (s36.trans s7).trans z8
  have hD8 : upd H7 D5 (.lst ((st'.noted.map (·.1)).map V.str ++ (st'.peeked.map (·.1)).map V.str)) D5 = some (.lst (((st'.noted ++ st'.peeked).map (·.1)).map V.str)) := by rw [upd_same, List.map_append, List.map_append]
  generalize upd H7 D5 (.lst ((st'.noted.map (·.1)).map V.str ++ (st'.peeked.map (·.1)).map V.str)) = H8 at z8 s38 hD8
  refine ⟨_, rfl, a1, _, rfl, get_of (s38 _ _ e) (ans_notes ..), _, rfl, a1, _, rfl, get_of (s38 _ _ e) (ans_peeks ..), ?_⟩
  refine cat_all (SqT.same s38 hN) (SqT.same s38 hP) (Nat.le_of_lt (small1000 (by omega))) (fun c H9 s9 hc => ?_)
  have s39 := s38.trans s9
  have hTn : Tn K H9 (.ref c) (envD (st.noted ++ st.peeked)) := .tup hc (by rw [List.map_append]; exact TnAll.keep (TK.of_same s39) (TnAll.append hNT hPT))
  obtain ⟨c', zs, e3, hC, hCT, hl, hx⟩ := env_at hTn
  cases e3
  refine ⟨c, rfl, ⟨_, hC⟩, for_tup (K := K) (a := c) (xs := zs) (fun i σ H' => ∃ (v5 : Option V), σ = [some (.ref a1), some (.ref a2), some (.ref g), v3, some (.ref D5), v5] ∧ Same H9 H')
    ⟨none, rfl, Same.refl _⟩ (fun i σ H' _ ⟨_, _, hs⟩ => SqT.same hs hC) ?_ ?_⟩
  · rintro i x σ H10 hi ⟨v5, rfl, hs⟩
    obtain ⟨r, b, hr1, rfl, hB⟩ := hx i x hi
    obtain ⟨d, hd1, hd2⟩ := TnAll.get hCT hi
    rw [List.getElem?_map, hr1] at hd1
    obtain rfl := Option.some.inj hd1
    have s3A := s39.trans hs
    have rin := al.sub r (List.mem_of_getElem? hr1)
    refine ⟨_, rfl, b, _, 0, _, rfl, rfl, SqT.same hs hB, rfl, _, rfl, D5, _, rfl, .inl (SqL.of (hs _ _ (s9 _ _ hD8))), rfl, L2.flat_strs _, _, rfl, ?_⟩
    rw [inV_strs]
    refine if_false_of (by rw [decide_eq_true (List.mem_map_of_mem (f := fun q : Str × Str => q.1) rin)]; rfl) ?_
    refine ⟨_, rfl, _, rfl, a2, _, rfl, gN s3A, _, rfl, a2, _, rfl, gP s3A, ?_⟩
    refine cat_all (SqT.same s3A hN') (SqT.same s3A hP') (Nat.le_of_lt (small1000 (by omega))) (fun c2 H11 s11 hc2 => ?_)
    have hT2 : Tn K H11 (.ref c2) (envD (st'.noted ++ st'.peeked)) := .tup hc2 (by rw [List.map_append]; exact TnAll.keep (TK.of_same (s3A.trans s11)) (TnAll.append hNT' hPT'))
    have nr : isNm r.1 = true ∧ isNm r.2 = true := by
      rcases List.mem_append.mp (List.mem_of_getElem? hr1) with h | h
      · exact al.n1.no r h
      · exact al.n1.pe r h
    have nall : ∀ p ∈ st'.noted ++ st'.peeked, isNm p.1 = true ∧ isNm p.2 = true := fun p hp => (List.mem_append.mp hp).elim (al.n2.no p) (al.n2.pe p)
    have lr : (wrD r).canLay0 = true := by
      have := env_lay [r] fun p hp => by rw [List.mem_singleton.mp hp]; exact nr
      simpa [PyData.canLayAll0] using this
    have dr : (wrD r).depth ≤ 60 := by
      have := env_deep [r]
      simp only [List.map_cons, List.map_nil, PyData.depthAll] at this
      omega
    refine ⟨wrD r, (st'.noted ++ st'.peeked).map wrD, Tn.dp (Tn.same (hs.trans s11) hd2), hT2.dp, shape_of lr dr, shape_of (envD_lay nall) (envD_deep _), _, rfl, ?_⟩
    refine if_false_of ?_ ⟨_, rfl, hs.trans s11⟩
    show (!(((st'.noted ++ st'.peeked).map wrD).any fun z => PyData.eqv z (wrD r))) = false
    have ha : (((st'.noted ++ st'.peeked).map wrD).any fun z => PyData.eqv z (wrD r)) = true := List.any_eq_true.mpr ⟨wrD r, List.mem_map_of_mem rin, SeqAt.eqv_refl _ lr⟩
    rw [ha]
    rfl
  · rintro σ H10 ⟨v5, rfl, hs⟩
    exact q H10 ((s03.trans s39).trans hs)
end
end K80
namespace K80
open PySem PySem.Spec PyProof.Rows L2 Td
theorem ProgAt.keep {K : PySem.W.Frag} {H H' : Hp} {C pa st : Addr} {p : PP} (h : ProgAt K H C pa p) (k : Keep st H H') (n : pa ≠ st) (ch : Chg (H st)) : ProgAt K H' C pa p := by
  obtain ⟨dx, aw, as, vd, ve, ⟨dn, en, e, hdn, hen⟩, h1, h2, h3, h4⟩ := h.ex
  have tk := TK.of_keep k ch
  exact ⟨dx, aw, as, vd, ve, ⟨dn, en, k _ _ n e, SqT.tk tk hdn, SqT.tk tk hen⟩, SqT.tk tk h1, SqT.tk tk h2, Tn.keep tk h3, Tn.keep tk h4⟩
theorem word_nm {p : PP} {m : Nat} {ws : List Str} (ok : p.Ok m) (hl : ws.length = p.sources.length) (hw : ∀ z ∈ ws, z ∈ p.words) {c : Str} (h : c ∈ p.cells) : isNm (wordAt p ws c) = true := by
  obtain ⟨q, hq, e⟩ := knF_mem (known_has (ws := ws) hl h)
  unfold wordAt
  rw [← e]
  exact tell_nm ok hl hw p.derived.length q (by rw [List.take_length]; exact hq)
def spLaw (K : PySem.W.Frag) : Sp := fun vs H Q _ => ∃ (a : Addr) (ns : List Int), vs = [.ref a] ∧ SqL K H a (ns.map V.int) ∧ ns.length ≤ 63 ∧ ∀ H', Q (.bl true) H'
theorem ch_isDer (p : PP) (L : List (Bool × Way)) (z : Str) : isDer (Chd p L) z = isDer p z := by
  unfold isDer Chd
  rw [chB_names]
theorem ch_cells (p : PP) (L : List (Bool × Way)) : (Chd p L).cells = p.cells := by unfold PP.cells Chd; rw [chB_names]
theorem tells0 (kn : Str → Str) (d : Str) : (rs0 d).tells kn := ⟨(fun _ _ h => nomatch h), (fun _ _ h => nomatch h)⟩
/-- a true run and its changed one -/
theorem ch_alike {p : PP} {m : Nat} {L : List (Bool × Way)} (ok : p.Ok m) (hm : m ≤ 16) (h : ChOk p L) (ok2 : (Chd p L).Ok 16) {e : Bool} {i : Nat} {q : Str × List Td.Row} (hq : (bodiesOf p e)[i]? = some q) {ws : List Str} (hl : ws.length = p.sources.length) (hw : ∀ z ∈ ws, z ∈ p.words) :
    Alike (runOf p ws q.2) (runOf (Chd p L) ws (chQ L e i q).2) ((earlyCs q.2 (ownC L e i)).foldl addC []) := by
  have S := ch_sim ok hm h hq ws
  obtain ⟨n1, f1, _⟩ := run_facts ok hm hl hw (bodies_in hq)
  obtain ⟨n2, f2, _⟩ := run_facts (q := chQ L e i q) ok2 (Nat.le_refl _) hl hw (bodies_in (chQ_mem hq))
  refine ⟨n1, n2, f1, f2, S.sa, S.wr, S.gi, S.pre, fun x hx => ?_⟩
  have t1 : (runOf p ws q.2).tells (knF (known0 p ws)) := true_Rs _ _ _ _ (tells0 _ _)
  have t2 : (runOf (Chd p L) ws (chQ L e i q).2).tells (knF (known0 p ws)) := by
    have := true_Rs (knF (known0 (Chd p L) ws)) (d0 (Chd p L)) (chQ L e i q).2 (rs0 (d0 (Chd p L))) (tells0 _ _)
    rw [ch_known ok hm h ws] at this
    unfold runOf
    rw [ch_known ok hm h ws]
    exact this
  have hc : x.1 ∈ heardS (runOf (Chd p L) ws (chQ L e i q).2) := (S.he x.1).mpr (.inr (List.mem_map_of_mem hx))
  obtain ⟨y, hy, ey⟩ := List.mem_map.mp hc
  have ex : x.2 = knF (known0 p ws) x.1 := (List.mem_append.mp hx).elim (t1.1 x.1 x.2) (t1.2 x.1 x.2)
  have ey2 : y.2 = knF (known0 p ws) y.1 := (List.mem_append.mp hy).elim (t2.1 y.1 y.2) (t2.2 y.1 y.2)
  have : x = y := Prod.ext ey.symm (by rw [ex, ey2, ey])
  rw [this]
  exact hy
section
variable {P : Program} {w : World} {K : PySem.W.Frag} {mg : Str → Option Value} {base : Heap}
theorem ok_law (T : Tops w K mg)
    (G__law_state : FnOk P w K mg base CX0 1 T.a__law_state T.d__law_state ["_law_script"] (spState K))
    (G__law_draw : FnOk P w K mg base CX0 1 T.a__law_draw T.d__law_draw ["_law_state_here", "_law_many_here"] spDraw)
    (G__law_parts : FnOk P w K mg base CX0 11 T.a__law_parts T.d__law_parts ["_law_state_here", "_law_sizes", "_law_peeks", "_law_writes"] (spParts K))
    (G__law_program : FnOk P w K mg base CX0 12 T.a__law_program T.d__law_program ["_law_parts_here"] (spMade K T.c_Program))
    (G__law_changes : FnOk P w K mg base CX0 6 T.a__law_changes T.d__law_changes ["_law_parts_here"] (spLawChs K))
    (G__law_chosen : FnOk P w K mg base CX0 2 T.a__law_chosen T.d__law_chosen ["_law_state_here", "_law_rows_here", "_law_many_here"] (spChosen K))
    (G_with_changes : FnOk P w K mg base CX0 13 T.a_with_changes T.d_with_changes ["program", "changes"] (spChanged K T.c_Program))
    (G__law_starts : FnOk P w K mg base CX0 1 T.a__law_starts T.d__law_starts ["_law_parts_here"] (spStarts K))
    (G_true_words : FnOk P w K mg base CX0 9 T.a_true_words T.d_true_words ["program", "words"] (spWordsG K T.c_Program))
    (G__law_early_cells : FnOk P w K mg base CX0 5 T.a__law_early_cells T.d__law_early_cells ["_law_parts_here", "_law_chosen_here", "_law_kind", "_law_at"] (spEarly K))
    (G_true_run : FnOk P w K mg base CX0 9 T.a_true_run T.d_true_run ["program", "words", "name"] (spTrue K T.c_Program))
    (G__law_same_run : FnOk P w K mg base CX0 1 T.a__law_same_run T.d__law_same_run ["_law_one", "_law_other", "_law_cells"] (spSameRun K)) :
    FnOk P w K mg base CX0 14 T.a_law T.d_law ["_law_script"] (spLaw K) := by
  refine T.F_law.ok sc_law (fun vs H Q E h => ?_) (fun cdv A outer s H vs Q E hr h => ?_)
  · obtain ⟨a, ns, rfl, _⟩ := h
    rfl
  obtain ⟨a, ns, rfl, hN, hlen, q⟩ := h
  refine ⟨_, (pss_cons (ps_set (i := 1) sc_law.nd rfl (Or.inl rfl) (pe_call G__law_state (hr.mono (by omega)) rfl T.m__law_state T.F__law_state.kp T.b__law_state .nil pass0 (pa_cons (pv 0) pa_nil)))
    (pss_cons (ps_set (i := 2) sc_law.nd rfl (Or.inl rfl) (pe_call G__law_draw (hr.mono (by omega)) rfl T.m__law_draw T.F__law_draw.kp T.b__law_draw .nil pass0 (pa_cons (pv 1) (pa_cons pe_int pa_nil))))
    (pss_cons (ps_set (i := 3) sc_law.nd rfl (Or.inl rfl) (pe_call G__law_parts (hr.mono (by omega)) rfl T.m__law_parts T.F__law_parts.kp T.b__law_parts .nil pass0 (pa_cons (pv 1) (pa_cons (pe_tup (pa_cons pe_int (pa_cons pe_int (pa_cons pe_int (pa_cons pe_int (pa_cons pe_int pa_nil)))))) (pa_cons pe_bl (pa_cons pe_bl pa_nil))))))
    (pss_cons (ps_set (i := 4) sc_law.nd rfl (Or.inl rfl) (pe_call G__law_program (hr.mono (by omega)) rfl T.m__law_program T.F__law_program.kp T.b__law_program .nil pass0 (pa_cons (pv 3) pa_nil)))
    (pss_cons (ps_set (i := 5) sc_law.nd rfl (Or.inl rfl) (pe_call G__law_chosen (hr.mono (by omega)) rfl T.m__law_chosen T.F__law_chosen.kp T.b__law_chosen .nil pass0 (pa_cons (pv 1) (pa_cons (pe_call G__law_changes (hr.mono (by omega)) rfl T.m__law_changes T.F__law_changes.kp T.b__law_changes .nil pass0 (pa_cons (pv 3) pa_nil)) (pa_cons (pv 2) pa_nil)))))
    (pss_cons (ps_set (i := 6) sc_law.nd rfl (Or.inl rfl) (pe_call G_with_changes (hr.mono (by omega)) rfl T.m_with_changes T.F_with_changes.kp T.b_with_changes .nil pass0 (pa_cons (pv 4) (pa_cons (pv 5) pa_nil))))
    (pss_cons (ps_for PassesOwn.never rfl (pi_list (pe_call G__law_starts (hr.mono (by omega)) rfl T.m__law_starts T.F__law_starts.kp T.b__law_starts .nil pass0 (pa_cons (pv 3) pa_nil))) (pg_name (i := 7) sc_law.nd rfl (Or.inl rfl)) (pss_cons (ps_if (pt_cmpR (op_neD hr.units) (pe_call G_true_words (hr.mono (by omega)) rfl T.m_true_words T.F_true_words.kp T.b_true_words .nil pass0 (pa_cons (pv 6) (pa_cons (pv 7) pa_nil))) (pe_call G_true_words (hr.mono (by omega)) rfl T.m_true_words T.F_true_words.kp T.b_true_words .nil pass0 (pa_cons (pv 4) (pa_cons (pv 7) pa_nil))) (nomark _)) (pss_one (ps_ret pe_bl)) pss_nil)
    (pss_cons (ps_for PassesOwn.never rfl (pi_range1 rfl T.z_range (pa_cons (pe_callB call_len rfl T.z_len PySem.boot_len (pa_cons (pe_ix ix_tup (pv 3) pe_int (fun _ _ => rfl)) pa_nil)) pa_nil)) (pg_name (i := 8) sc_law.nd rfl (Or.inl rfl)) (pss_cons (ps_set (i := 9) sc_law.nd rfl (Or.inl rfl) (pe_ix ix_tup (pe_ix ix_tup (pe_ix ix_tup (pv 3) pe_int (fun _ _ => rfl)) (pv 8) (fun _ _ => rfl)) pe_int (fun _ _ => rfl)))
    (pss_cons (ps_set (i := 10) sc_law.nd rfl (Or.inl rfl) (pe_call G__law_early_cells (hr.mono (by omega)) rfl T.m__law_early_cells T.F__law_early_cells.kp T.b__law_early_cells .nil pass0 (pa_cons (pv 3) (pa_cons (pv 5) (pa_cons pe_str (pa_cons (pv 8) pa_nil))))))
    (pss_one (ps_if (pt_not (pt_val (pe_call G__law_same_run (hr.mono (by omega)) rfl T.m__law_same_run T.F__law_same_run.kp T.b__law_same_run .nil pass0 (pa_cons (pe_call G_true_run (hr.mono (by omega)) rfl T.m_true_run T.F_true_run.kp T.b_true_run .nil pass0 (pa_cons (pv 4) (pa_cons (pv 7) (pa_cons (pv 9) pa_nil)))) (pa_cons (pe_call G_true_run (hr.mono (by omega)) rfl T.m_true_run T.F_true_run.kp T.b_true_run .nil pass0 (pa_cons (pv 6) (pa_cons (pv 7) (pa_cons (pv 9) pa_nil)))) (pa_cons (pv 10) pa_nil)))))) (pss_one (ps_ret pe_bl)) pss_nil)))))
    (pss_one (ps_for PassesOwn.never rfl (pi_range1 rfl T.z_range (pa_cons (pe_callB call_len rfl T.z_len PySem.boot_len (pa_cons (pe_ix ix_tup (pv 3) pe_int (fun _ _ => rfl)) pa_nil)) pa_nil)) (pg_name (i := 8) sc_law.nd rfl (Or.inl rfl)) (pss_cons (ps_set (i := 9) sc_law.nd rfl (Or.inl rfl) (pe_ix ix_tup (pe_ix ix_tup (pe_ix ix_tup (pv 3) pe_int (fun _ _ => rfl)) (pv 8) (fun _ _ => rfl)) pe_int (fun _ _ => rfl)))
    (pss_cons (ps_set (i := 10) sc_law.nd rfl (Or.inl rfl) (pe_call G__law_early_cells (hr.mono (by omega)) rfl T.m__law_early_cells T.F__law_early_cells.kp T.b__law_early_cells .nil pass0 (pa_cons (pv 3) (pa_cons (pv 5) (pa_cons pe_str (pa_cons (pv 8) pa_nil))))))
    (pss_one (ps_if (pt_not (pt_val (pe_call G__law_same_run (hr.mono (by omega)) rfl T.m__law_same_run T.F__law_same_run.kp T.b__law_same_run .nil pass0 (pa_cons (pe_call G_true_run (hr.mono (by omega)) rfl T.m_true_run T.F_true_run.kp T.b_true_run .nil pass0 (pa_cons (pv 4) (pa_cons (pv 7) (pa_cons (pv 9) pa_nil)))) (pa_cons (pe_call G_true_run (hr.mono (by omega)) rfl T.m_true_run T.F_true_run.kp T.b_true_run .nil pass0 (pa_cons (pv 6) (pa_cons (pv 7) (pa_cons (pv 9) pa_nil)))) (pa_cons (pv 10) pa_nil)))))) (pss_one (ps_ret pe_bl)) pss_nil)))))))))
    (pss_one (ps_ret pe_bl))))))))), ?_⟩
  refine ⟨_, rfl, a, ns, rfl, hN, hlen, fun st sc H1 s1 f1 f2 o1 => ?_⟩
  refine ⟨_, rfl, st, sc, 7, rfl, by decide, by decide, o1, fun r H2 r0 r1 k2 o2 _ => ?_⟩
  obtain ⟨n, rfl⟩ : ∃ n : Nat, r = (n : Nat) := ⟨r.toNat, by omega⟩
  refine ⟨_, rfl, by show 5 ≤ sizeLine; decide, fun z hz => ?_⟩
  have w2 := Same.new hz (.tup [V.int 2, .int 2, .int 3, .int 3, .int 8])
  refine ⟨st, sc, z, 2, 2, 3, 3, 8, true, true, rfl, stGo o2 w2, SqT.of upd_same, (o2.ne hz).1, by decide, by decide, by decide, by decide, by decide, by decide, by decide, by decide, by decide, by decide, fun v p H3 k3 o3 ok0 hsrc hX => ?_⟩
  have ok : p.Ok 9 := ok0
  have hD : Tn K H3 v p.data := DataX.tn hX
  obtain ⟨da, aw, as, vd, ve, rfl, hV, h1, h2, h3, h4⟩ := parts_at hD
  obtain ⟨ad, dxs, rfl, hA, hdl, hdx⟩ := pairs_at h3
  obtain ⟨ae, exs, rfl, hA2, hel, hex⟩ := pairs_at h4
  have d6 := ok.d6
  have e4 := ok.e4
  refine ⟨_, rfl, .ref da, p, 9, rfl, hD, ok, by decide, fun pa H4 s4 npa hP => ?_⟩
  have o4 := stGo o3 s4
  have nps : pa ≠ st := (o3.ne npa).1
  refine ⟨_, rfl, _, rfl, .ref da, p, 9, rfl, Tn.same s4 hD, ok, by decide, fun l0 cs0 H5 s5 nl0 hl0 hC0 => ?_⟩
  have o5 := stGo o4 s5
  have cl0 : (chsAll p).length ≤ 400 := by
    have h1 := chs_len (prsAll p)
    have h2 := prsAll_len ok (by decide)
    unfold chsAll
    omega
  refine ⟨_, rfl, st, sc, l0, cs0, chsAll p, n, rfl, o5, (o4.ne nl0).1, hl0, hC0, chs_nd _ (prsAll_nd p), cl0, by omega, fun l cs L H6 k6 o6 nls hl hC nd sub ll => ?_⟩
  obtain ⟨hch, hst⟩ := chsAll_ok ok sub
  have tk6 := TK.of_keep k6 o5.chg
  have hP6 := (hP.same s5).keep k6 nps o5.chg
  have hD6 := Tn.keep tk6 (Tn.same (s4.trans s5) hD)
  have hV6 := SqT.tk tk6 (SqT.same (s4.trans s5) hV)
  have hA6 := SqT.tk tk6 (SqT.same (s4.trans s5) hA)
  have hB6 := SqT.tk tk6 (SqT.same (s4.trans s5) hA2)
  have hdx6 : ∀ (i : Nat) (x : V), dxs[i]? = some x → ∃ (q : Str × List Td.Row) (b : Addr) (vr : V), p.derived[i]? = some q ∧ x = .ref b ∧ SqT K H6 b [.str q.1, vr] := fun i x hx => by
    obtain ⟨q, b, vr, g1, g2, g3, _⟩ := hdx i x hx
    exact ⟨q, b, vr, g1, g2, SqT.tk tk6 (SqT.same (s4.trans s5) g3)⟩
  have hex6 : ∀ (i : Nat) (x : V), exs[i]? = some x → ∃ (q : Str × List Td.Row) (b : Addr) (vr : V), p.effects[i]? = some q ∧ x = .ref b ∧ SqT K H6 b [.str q.1, vr] := fun i x hx => by
    obtain ⟨q, b, vr, g1, g2, g3, _⟩ := hex i x hx
    exact ⟨q, b, vr, g1, g2, SqT.tk tk6 (SqT.same (s4.trans s5) g3)⟩
  have C6 : ChgL K H6 l cs p 9 L := ⟨hl, hC, ok, by omega, hch, nd, fun c hc => by have := hst c hc; omega⟩
  clear hX hD hV h1 h2 h3 h4 hdx hex hA hA2 hP hl0 hC0 k2 k3 w2
  refine ⟨_, rfl, _, rfl, pa, l, cs, p, 9, L, rfl, hP6, C6, fun oa H7 s7 noa hO => ?_⟩
  have ok2 := chd_ok C6.ok C6.ch C6.few
  refine ⟨_, rfl, .ref da, p, 9, rfl, Tn.same s7 hD6, ok, fun wl wcs R H8 s8 nwl hwl hR rok => ?_⟩
  have s68 := s7.trans s8
  have P8 := hP6.same s68
  have O8 := hO.same s8
  have D8 := Tn.same s68 hD6
  have V8 := SqT.same s68 hV6
  have A8 := SqT.same s68 hA6
  have B8 := SqT.same s68 hB6
  have l8 := s68 _ _ hl
  have c8 := TnAll.keep (TK.of_same s68) hC
  refine ⟨wl, rfl, ⟨_, SqL.of hwl⟩, for_list (K := K) (a := wl) (xs := wcs)
    (fun k σ H' => ∃ (v7 v8 v9 v10 : Option V), σ = [some (.ref a), some (.ref st), some (.int (n : Nat)), some (.ref da), some (.ref pa), some (.ref l), some (.ref oa), v7, v8, v9, v10] ∧ Same H8 H')
    ⟨none, none, none, none, rfl, Same.refl _⟩ (fun k σ H' _ ⟨_, _, _, _, _, hs⟩ => SqL.of (hs _ _ hwl)) ?_ ?_⟩
  · rintro k x σ H9 hx ⟨v7, v8, v9, v10, rfl, s9⟩
    obtain ⟨d, hd1, hd2⟩ := TnAll.get hR hx
    rw [List.getElem?_map] at hd1
    obtain ⟨ws, hws, rfl⟩ := Option.map_eq_some_iff.mp hd1
    obtain ⟨wa, rfl, hW⟩ := strs_tn hd2
    obtain ⟨wlen, wmem⟩ := rok ws (List.mem_of_getElem? hws)
    have eW : ((Chd p L).cells.map fun c => V.str (wordAt (Chd p L) ws c)) = (p.cells.map (wordAt p ws)).map V.str := by
      rw [ch_cells, List.map_map]
      refine List.map_congr_left fun c _ => ?_
      show V.str (wordAt (Chd p L) ws c) = V.str (wordAt p ws c)
      unfold wordAt
      rw [ch_known ok (by decide) hch ws]
    have eW1 : (p.cells.map fun c => V.str (wordAt p ws c)) = (p.cells.map (wordAt p ws)).map V.str := by rw [List.map_map]; rfl
    refine ⟨_, rfl, _, rfl, oa, wa, Chd p L, 16, ws, rfl, ⟨O8.same s9, ok2, Nat.le_refl _, SqT.same s9 hW, wlen, wmem⟩, fun t1 H10 s10 ht1 => ?_⟩
    have s8A := s9.trans s10
    refine ⟨_, rfl, _, rfl, pa, wa, p, 9, ws, rfl, ⟨P8.same s8A, ok, by decide, SqT.same s8A hW, wlen, wmem⟩, fun t2 H11 s11 ht2 => ?_⟩
    have s8B := s8A.trans s11
    rw [eW] at ht1
    rw [eW1] at ht2
    have wn : ∀ z ∈ p.cells.map (wordAt p ws), isNm z = true := fun z hz => by
      obtain ⟨c, hc, rfl⟩ := List.mem_map.mp hz
      exact word_nm ok wlen wmem hc
    refine ne_same (d := strsD (p.cells.map (wordAt p ws))) (.tup (SqT.same s11 ht1) (DpAll.strs _)) (.tup ht2 (DpAll.strs _)) (strsD_lay wn) (strsD_deep _) ⟨_, rfl, if_false_of rfl ?_⟩
    -- the derived bodies
    refine ⟨_, rfl, da, _, 2, _, rfl, rfl, SqT.same s8B V8, rfl, .ref ad, _, rfl, .inr ⟨_, SqT.same s8B A8, rfl⟩, ((dxs.length : Nat) : Int), rfl, by omega, by omega, for_range (lo := 0) (n := ((dxs.length : Nat) : Int).toNat)
      (fun i σ H' => ∃ (v8 v9 v10 : Option V), σ = [some (.ref a), some (.ref st), some (.int (n : Nat)), some (.ref da), some (.ref pa), some (.ref l), some (.ref oa), some (.ref wa), v8, v9, v10] ∧ Same H8 H')
      ⟨v8, v9, v10, rfl, s8B⟩ ?_ ?_⟩
    · rintro i σ H12 hi ⟨v8, v9, v10, rfl, s12⟩
      rw [Int.toNat_natCast] at hi
      rw [show (0 : Int) + (i : Nat) = (i : Nat) by omega]
      have hix : dxs[i]? = some dxs[i] := List.getElem?_eq_getElem hi
      obtain ⟨qq, b, vr, hq, ex, hB⟩ := hdx6 i _ hix
      rw [ex] at hix
      have hqe : (bodiesOf p false)[i]? = some qq := hq
      have hBb := SqT.same (s68.trans s12) hB
      refine ⟨_, rfl, da, _, 2, _, rfl, rfl, SqT.same s12 V8, rfl, _, rfl, ad, _, (i : Nat), .ref b, rfl, rfl, SqT.same s12 A8, atI_nat hix, b, _, 0, _, rfl, rfl, hBb, rfl, ?_⟩
      refine ⟨_, rfl, _, rfl, _, rfl, .ref da, p, 9, l, cs, L, false, i, qq, rfl, Tn.same s12 D8, ok, by decide, s12 _ _ l8, TnAll.keep (TK.of_same s12) c8, ll, hch, hqe, fun g H13 s13 ng hg => ?_⟩
      have s8D := s12.trans s13
      refine ⟨_, rfl, _, rfl, _, rfl, pa, wa, qq.1, p, 9, ws, qq, rfl, P8.same s8D, ok, by decide, SqT.same s8D hW, wlen, wmem, bodies_in hqe, rfl, fun a1 H14 s14 na1 hA1 => ?_⟩
      have s8E := s8D.trans s14
      refine ⟨_, rfl, _, rfl, _, rfl, oa, wa, qq.1, Chd p L, 16, ws, chQ L false i qq, rfl, O8.same s8E, ok2, Nat.le_refl _, SqT.same s8E hW, wlen, wmem, bodies_in (chQ_mem hqe), rfl, fun a2 H15 s15 na2 hA2' => ?_⟩
      rw [ch_isDer] at hA2'
      refine ⟨_, rfl, a1, a2, g, _, _, _, _, rfl, hA1.same s15, hA2', (s14.trans s15) _ _ hg, ch_alike ok (by decide) hch ok2 hqe wlen wmem, fun H16 s16 => ⟨_, rfl, if_false_of rfl ?_⟩⟩
      exact ⟨_, _, _, rfl, (s8E.trans s15).trans s16⟩
    rintro σ H12 ⟨v8, v9, v10, rfl, s12⟩
    -- the effects
    refine ⟨_, rfl, da, _, 3, _, rfl, rfl, SqT.same s12 V8, rfl, .ref ae, _, rfl, .inr ⟨_, SqT.same s12 B8, rfl⟩, ((exs.length : Nat) : Int), rfl, by omega, by omega, for_range (lo := 0) (n := ((exs.length : Nat) : Int).toNat)
      (fun i σ H' => ∃ (v8 v9 v10 : Option V), σ = [some (.ref a), some (.ref st), some (.int (n : Nat)), some (.ref da), some (.ref pa), some (.ref l), some (.ref oa), some (.ref wa), v8, v9, v10] ∧ Same H8 H')
      ⟨v8, v9, v10, rfl, s12⟩ ?_ ?_⟩
    · clear s12
      rintro i σ H12 hi ⟨v8, v9, v10, rfl, s12⟩
      rw [Int.toNat_natCast] at hi
      rw [show (0 : Int) + (i : Nat) = (i : Nat) by omega]
      have hix : exs[i]? = some exs[i] := List.getElem?_eq_getElem hi
      obtain ⟨qq, b, vr, hq, ex, hB⟩ := hex6 i _ hix
      rw [ex] at hix
      have hqe : (bodiesOf p true)[i]? = some qq := hq
      have hBb := SqT.same (s68.trans s12) hB
      refine ⟨_, rfl, da, _, 3, _, rfl, rfl, SqT.same s12 V8, rfl, _, rfl, ae, _, (i : Nat), .ref b, rfl, rfl, SqT.same s12 B8, atI_nat hix, b, _, 0, _, rfl, rfl, hBb, rfl, ?_⟩
      refine ⟨_, rfl, _, rfl, _, rfl, .ref da, p, 9, l, cs, L, true, i, qq, rfl, Tn.same s12 D8, ok, by decide, s12 _ _ l8, TnAll.keep (TK.of_same s12) c8, ll, hch, hqe, fun g H13 s13 ng hg => ?_⟩
      have s8D := s12.trans s13
      refine ⟨_, rfl, _, rfl, _, rfl, pa, wa, qq.1, p, 9, ws, qq, rfl, P8.same s8D, ok, by decide, SqT.same s8D hW, wlen, wmem, bodies_in hqe, rfl, fun a1 H14 s14 na1 hA1 => ?_⟩
      have s8E := s8D.trans s14
      refine ⟨_, rfl, _, rfl, _, rfl, oa, wa, qq.1, Chd p L, 16, ws, chQ L true i qq, rfl, O8.same s8E, ok2, Nat.le_refl _, SqT.same s8E hW, wlen, wmem, bodies_in (chQ_mem hqe), rfl, fun a2 H15 s15 na2 hA2' => ?_⟩
      rw [ch_isDer] at hA2'
      refine ⟨_, rfl, a1, a2, g, _, _, _, _, rfl, hA1.same s15, hA2', (s14.trans s15) _ _ hg, ch_alike ok (by decide) hch ok2 hqe wlen wmem, fun H16 s16 => ⟨_, rfl, if_false_of rfl ?_⟩⟩
      exact ⟨_, _, _, rfl, (s8E.trans s15).trans s16⟩
    rintro σ H13 ⟨v8, v9, v10, rfl, s13⟩
    exact ⟨_, _, _, _, rfl, s13⟩
  · rintro σ H9 ⟨v7, v8, v9, v10, rfl, s9⟩
    exact q _
end
end K80
namespace K80
open PySem PySem.Spec PyProof.Rows L2 Td
theorem law_of {w : World} {K : PySem.W.Frag} {mg : Str → Option Value} {base : Heap} (T : Tops w K mg) : FnOk PySem.Challenge.pw_toldonward_k80_whole_changes_keep_the_tr w K mg base CX0 14 T.a_law T.d_law ["_law_script"] (spLaw K) := by
  have draw := ok_draw (P := PySem.Challenge.pw_toldonward_k80_whole_changes_keep_the_tr) (base := base) T
  have nms := ok_names (P := PySem.Challenge.pw_toldonward_k80_whole_changes_keep_the_tr) (base := base) T draw
  have row := ok_row (P := PySem.Challenge.pw_toldonward_k80_whole_changes_keep_the_tr) (base := base) T draw
  have rows := ok_rows T draw row (ok_many T 5) 5
  have parts := ok_parts T draw nms rows
  have isn := ok_is_name (P := PySem.Challenge.pw_toldonward_k80_whole_changes_keep_the_tr) (base := base) T
  have arn := ok_are_names T isn
  have nps := ok_named_pairs T isn
  have nof := ok_names_of (P := PySem.Challenge.pw_toldonward_k80_whole_changes_keep_the_tr) (base := base) T
  have fits := fit_held T (ok_read T isn) (ok_put T isn) (ok_slot T isn) (ok_write T isn) (ok_if T isn)
  have fst := ok_first T (ok_valid T fits (ok_check_of T)) 4
  have bod := ok_check_body T fst (ok_paths T 4)
  have bds := ok_check_bodies T bod (ok_scope T)
  have prg := ok_program T (ok_check_parts T arn nps nof) bds nof
  have wi := ok_word_in (P := PySem.Challenge.pw_toldonward_k80_whole_changes_keep_the_tr) (base := base) T
  have acts := fitA_held T (ok_do_read T) (ok_do_peek T) (ok_do_put T) (ok_do_write T wi) (ok_do_say T wi)
  have truly := ok_truly T (ok_true_run_init T) (ok_do_rows T acts wi 4)
  have kno := ok_known T truly
  have enm := ok_effect_names (P := PySem.Challenge.pw_toldonward_k80_whole_changes_keep_the_tr) (base := base) T
  have pof := ok_parts_of (P := PySem.Challenge.pw_toldonward_k80_whole_changes_keep_the_tr) (base := base) T
  have sta := ok_start T (ok_is_start (P := PySem.Challenge.pw_toldonward_k80_whole_changes_keep_the_tr) (base := base) T)
  have run := ok_true T sta (ok_body T) enm kno truly pof
  have rb := ok_rowb (P := PySem.Challenge.pw_toldonward_k80_whole_changes_keep_the_tr) (base := base) T 4
  have rat := ok_row_at T (ok_form_good T (ok_is_integer T)) rb
  have chb := ok_ch_bodies T (ok_ch_rows T (ok_slots T 4) rb (ok_with T 4))
  have wch := ok_with_ch T (ok_checked T (ok_is_change T rat)) (ok_changed T chb prg)
  have prs := ok_prs (P := PySem.Challenge.pw_toldonward_k80_whole_changes_keep_the_tr) (base := base) T 4
  exact ok_law T (ok_state T) draw parts (ok_law_program T prg) (ok_law_chs T (ok_prs_all T prs)) (ok_chosen T draw) wch (ok_starts T) (ok_true_wordsG T sta (ok_cells T) kno) (ok_early T prs) run (ok_same_run T)
abbrev D_is_integer : He.DefD := ⟨("is_integer", none), "is_integer", "is_integer", defArgs s_is_integer, defBody s_is_integer, defScope s_is_integer, [], []⟩
abbrev D_is_name : He.DefD := ⟨("is_name", none), "is_name", "is_name", defArgs s_is_name, defBody s_is_name, defScope s_is_name, [], []⟩
abbrev D_are_names : He.DefD := ⟨("are_names", none), "are_names", "are_names", defArgs s_are_names, defBody s_are_names, defScope s_are_names, [], []⟩
abbrev D_are_named_pairs : He.DefD := ⟨("are_named_pairs", none), "are_named_pairs", "are_named_pairs", defArgs s_are_named_pairs, defBody s_are_named_pairs, defScope s_are_named_pairs, [], []⟩
abbrev D_InvalidProgram_init : He.DefD := ⟨("InvalidProgram", some "__init__"), "__init__", "InvalidProgram.__init__", defArgs s_InvalidProgram_init, defBody s_InvalidProgram_init, defScope s_InvalidProgram_init, [], []⟩
abbrev D_InvalidStart_init : He.DefD := ⟨("InvalidStart", some "__init__"), "__init__", "InvalidStart.__init__", defArgs s_InvalidStart_init, defBody s_InvalidStart_init, defScope s_InvalidStart_init, [], []⟩
abbrev D_InvalidPath_init : He.DefD := ⟨("InvalidPath", some "__init__"), "__init__", "InvalidPath.__init__", defArgs s_InvalidPath_init, defBody s_InvalidPath_init, defScope s_InvalidPath_init, [], []⟩
abbrev D_UnknownCell_init : He.DefD := ⟨("UnknownCell", some "__init__"), "__init__", "UnknownCell.__init__", defArgs s_UnknownCell_init, defBody s_UnknownCell_init, defScope s_UnknownCell_init, [], []⟩
abbrev D_InvalidChange_init : He.DefD := ⟨("InvalidChange", some "__init__"), "__init__", "InvalidChange.__init__", defArgs s_InvalidChange_init, defBody s_InvalidChange_init, defScope s_InvalidChange_init, [], []⟩
abbrev D_Record_init : He.DefD := ⟨("Record", some "__init__"), "__init__", "Record.__init__", defArgs s_Record_init, defBody s_Record_init, defScope s_Record_init, [], []⟩
abbrev D_Record_parts : He.DefD := ⟨("TrueRun", some "parts"), "parts", "Record.parts", defArgs s_Record_parts, defBody s_Record_parts, defScope s_Record_parts, [], []⟩
abbrev D_TrueRun_word_in : He.DefD := ⟨("TrueRun", some "word_in"), "word_in", "TrueRun.word_in", defArgs s_TrueRun_word_in, defBody s_TrueRun_word_in, defScope s_TrueRun_word_in, [], []⟩
abbrev D_do_read : He.DefD := ⟨("do_read", none), "do_read", "do_read", defArgs s_do_read, defBody s_do_read, defScope s_do_read, [], []⟩
abbrev D_do_peek : He.DefD := ⟨("do_peek", none), "do_peek", "do_peek", defArgs s_do_peek, defBody s_do_peek, defScope s_do_peek, [], []⟩
abbrev D_do_put : He.DefD := ⟨("do_put", none), "do_put", "do_put", defArgs s_do_put, defBody s_do_put, defScope s_do_put, [], []⟩
abbrev D_do_write : He.DefD := ⟨("do_write", none), "do_write", "do_write", defArgs s_do_write, defBody s_do_write, defScope s_do_write, [], []⟩
abbrev D_do_say : He.DefD := ⟨("do_say", none), "do_say", "do_say", defArgs s_do_say, defBody s_do_say, defScope s_do_say, [], []⟩
abbrev D_do_rows : He.DefD := ⟨("do_rows", none), "do_rows", "do_rows", defArgs s_do_rows, defBody s_do_rows, defScope s_do_rows, [], []⟩
abbrev D_run_truly : He.DefD := ⟨("run_truly", none), "run_truly", "run_truly", defArgs s_run_truly, defBody s_run_truly, defScope s_run_truly, [], []⟩
abbrev D_is_start : He.DefD := ⟨("is_start", none), "is_start", "is_start", defArgs s_is_start, defBody s_is_start, defScope s_is_start, [], []⟩
abbrev D_check_start : He.DefD := ⟨("check_start", none), "check_start", "check_start", defArgs s_check_start, defBody s_check_start, defScope s_check_start, [], []⟩
abbrev D_known_words : He.DefD := ⟨("known_words", none), "known_words", "known_words", defArgs s_known_words, defBody s_known_words, defScope s_known_words, [], []⟩
abbrev D_true_words : He.DefD := ⟨("true_words", none), "true_words", "true_words", defArgs s_true_words, defBody s_true_words, defScope s_true_words, [], []⟩
abbrev D_true_run : He.DefD := ⟨("true_run", none), "true_run", "true_run", defArgs s_true_run, defBody s_true_run, defScope s_true_run, [], []⟩
abbrev D_Scope_init : He.DefD := ⟨("Scope", some "__init__"), "__init__", "Scope.__init__", defArgs s_Scope_init, defBody s_Scope_init, defScope s_Scope_init, [], []⟩
abbrev D_is_read_row : He.DefD := ⟨("is_read_row", none), "is_read_row", "is_read_row", defArgs s_is_read_row, defBody s_is_read_row, defScope s_is_read_row, [], []⟩
abbrev D_is_put_row : He.DefD := ⟨("is_put_row", none), "is_put_row", "is_put_row", defArgs s_is_put_row, defBody s_is_put_row, defScope s_is_put_row, [], []⟩
abbrev D_is_if_row : He.DefD := ⟨("is_if_row", none), "is_if_row", "is_if_row", defArgs s_is_if_row, defBody s_is_if_row, defScope s_is_if_row, [], []⟩
abbrev D_is_slot_row : He.DefD := ⟨("is_slot_row", none), "is_slot_row", "is_slot_row", defArgs s_is_slot_row, defBody s_is_slot_row, defScope s_is_slot_row, [], []⟩
abbrev D_is_write_row : He.DefD := ⟨("is_write_row", none), "is_write_row", "is_write_row", defArgs s_is_write_row, defBody s_is_write_row, defScope s_is_write_row, [], []⟩
abbrev D_check_of : He.DefD := ⟨("check_of", none), "check_of", "check_of", defArgs s_check_of, defBody s_check_of, defScope s_check_of, [], []⟩
abbrev D_is_valid_row : He.DefD := ⟨("is_valid_row", none), "is_valid_row", "is_valid_row", defArgs s_is_valid_row, defBody s_is_valid_row, defScope s_is_valid_row, [], []⟩
abbrev D_first_wrong_path : He.DefD := ⟨("first_wrong_path", none), "first_wrong_path", "first_wrong_path", defArgs s_first_wrong_path, defBody s_first_wrong_path, defScope s_first_wrong_path, [], []⟩
abbrev D_paths_of_rows : He.DefD := ⟨("paths_of_rows", none), "paths_of_rows", "paths_of_rows", defArgs s_paths_of_rows, defBody s_paths_of_rows, defScope s_paths_of_rows, [], []⟩
abbrev D_row_behind : He.DefD := ⟨("row_behind", none), "row_behind", "row_behind", defArgs s_row_behind, defBody s_row_behind, defScope s_row_behind, [], []⟩
abbrev D_rows_with : He.DefD := ⟨("rows_with", none), "rows_with", "rows_with", defArgs s_rows_with, defBody s_rows_with, defScope s_rows_with, [], []⟩
abbrev D_slots_in : He.DefD := ⟨("slots_in", none), "slots_in", "slots_in", defArgs s_slots_in, defBody s_slots_in, defScope s_slots_in, [], []⟩
abbrev D_Program_init : He.DefD := ⟨("Program", some "__init__"), "__init__", "Program.__init__", defArgs s_Program_init, defBody s_Program_init, defScope s_Program_init, [], []⟩
abbrev D_Program_eq : He.DefD := ⟨("Program", some "__eq__"), "__eq__", "Program.__eq__", defArgs s_Program_eq, defBody s_Program_eq, defScope s_Program_eq, [], []⟩
abbrev D_Program_cells : He.DefD := ⟨("Program", some "cells"), "cells", "Program.cells", defArgs s_Program_cells, defBody s_Program_cells, defScope s_Program_cells, [], []⟩
abbrev D_Program_derived_names : He.DefD := ⟨("Program", some "derived_names"), "derived_names", "Program.derived_names", defArgs s_Program_derived_names, defBody s_Program_derived_names, defScope s_Program_derived_names, [], []⟩
abbrev D_Program_effect_names : He.DefD := ⟨("Program", some "effect_names"), "effect_names", "Program.effect_names", defArgs s_Program_effect_names, defBody s_Program_effect_names, defScope s_Program_effect_names, [], []⟩
abbrev D_Program_body : He.DefD := ⟨("Program", some "body"), "body", "Program.body", defArgs s_Program_body, defBody s_Program_body, defScope s_Program_body, [], []⟩
abbrev D_Program_row_paths : He.DefD := ⟨("Program", some "row_paths"), "row_paths", "Program.row_paths", defArgs s_Program_row_paths, defBody s_Program_row_paths, defScope s_Program_row_paths, [], []⟩
abbrev D_Program_row_at : He.DefD := ⟨("Program", some "row_at"), "row_at", "Program.row_at", defArgs s_Program_row_at, defBody s_Program_row_at, defScope s_Program_row_at, [], []⟩
abbrev D_Program_with_row : He.DefD := ⟨("Program", some "with_row"), "with_row", "Program.with_row", defArgs s_Program_with_row, defBody s_Program_with_row, defScope s_Program_with_row, [], []⟩
abbrev D_names_of : He.DefD := ⟨("names_of", none), "names_of", "names_of", defArgs s_names_of, defBody s_names_of, defScope s_names_of, [], []⟩
abbrev D_is_path_form : He.DefD := ⟨("is_path_form", none), "is_path_form", "is_path_form", defArgs s_is_path_form, defBody s_is_path_form, defScope s_is_path_form, [], []⟩
abbrev D_check_parts : He.DefD := ⟨("check_parts", none), "check_parts", "check_parts", defArgs s_check_parts, defBody s_check_parts, defScope s_check_parts, [], []⟩
abbrev D_check_bodies : He.DefD := ⟨("check_bodies", none), "check_bodies", "check_bodies", defArgs s_check_bodies, defBody s_check_bodies, defScope s_check_bodies, [], []⟩
abbrev D_check_body : He.DefD := ⟨("check_body", none), "check_body", "check_body", defArgs s_check_body, defBody s_check_body, defScope s_check_body, [], []⟩
abbrev D_is_change : He.DefD := ⟨("is_change", none), "is_change", "is_change", defArgs s_is_change, defBody s_is_change, defScope s_is_change, [], []⟩
abbrev D_check_changes : He.DefD := ⟨("check_changes", none), "check_changes", "check_changes", defArgs s_check_changes, defBody s_check_changes, defScope s_check_changes, [], []⟩
abbrev D_with_changes : He.DefD := ⟨("with_changes", none), "with_changes", "with_changes", defArgs s_with_changes, defBody s_with_changes, defScope s_with_changes, [], []⟩
abbrev D_changed : He.DefD := ⟨("changed", none), "changed", "changed", defArgs s_changed, defBody s_changed, defScope s_changed, [], []⟩
abbrev D_changed_bodies : He.DefD := ⟨("changed_bodies", none), "changed_bodies", "changed_bodies", defArgs s_changed_bodies, defBody s_changed_bodies, defScope s_changed_bodies, [], []⟩
abbrev D_changed_rows : He.DefD := ⟨("changed_rows", none), "changed_rows", "changed_rows", defArgs s_changed_rows, defBody s_changed_rows, defScope s_changed_rows, [], []⟩
abbrev D_law_state : He.DefD := ⟨("_law_state", none), "_law_state", "_law_state", defArgs s_law_state, defBody s_law_state, defScope s_law_state, [], []⟩
abbrev D_law_draw : He.DefD := ⟨("_law_draw", none), "_law_draw", "_law_draw", defArgs s_law_draw, defBody s_law_draw, defScope s_law_draw, [], []⟩
abbrev D_law_names : He.DefD := ⟨("_law_names", none), "_law_names", "_law_names", defArgs s_law_names, defBody s_law_names, defScope s_law_names, [], []⟩
abbrev D_law_many : He.DefD := ⟨("_law_many", none), "_law_many", "_law_many", defArgs s_law_many, defBody s_law_many, defScope s_law_many, [], []⟩
abbrev D_law_row : He.DefD := ⟨("_law_row", none), "_law_row", "_law_row", defArgs s_law_row, defBody s_law_row, defScope s_law_row, [], []⟩
abbrev D_law_rows : He.DefD := ⟨("_law_rows", none), "_law_rows", "_law_rows", defArgs s_law_rows, defBody s_law_rows, defScope s_law_rows, [], []⟩
abbrev D_law_parts : He.DefD := ⟨("_law_parts", none), "_law_parts", "_law_parts", defArgs s_law_parts, defBody s_law_parts, defScope s_law_parts, [], []⟩
abbrev D_law_program : He.DefD := ⟨("_law_program", none), "_law_program", "_law_program", defArgs s_law_program, defBody s_law_program, defScope s_law_program, [], []⟩
abbrev D_law_chosen : He.DefD := ⟨("_law_chosen", none), "_law_chosen", "_law_chosen", defArgs s_law_chosen, defBody s_law_chosen, defScope s_law_chosen, [], []⟩
abbrev D_law_paths : He.DefD := ⟨("_law_paths", none), "_law_paths", "_law_paths", defArgs s_law_paths, defBody s_law_paths, defScope s_law_paths, [], []⟩
abbrev D_law_all_paths : He.DefD := ⟨("_law_all_paths", none), "_law_all_paths", "_law_all_paths", defArgs s_law_all_paths, defBody s_law_all_paths, defScope s_law_all_paths, [], []⟩
abbrev D_law_changes : He.DefD := ⟨("_law_changes", none), "_law_changes", "_law_changes", defArgs s_law_changes, defBody s_law_changes, defScope s_law_changes, [], []⟩
abbrev D_law_starts : He.DefD := ⟨("_law_starts", none), "_law_starts", "_law_starts", defArgs s_law_starts, defBody s_law_starts, defScope s_law_starts, [], []⟩
abbrev D_law_early_cells : He.DefD := ⟨("_law_early_cells", none), "_law_early_cells", "_law_early_cells", defArgs s_law_early_cells, defBody s_law_early_cells, defScope s_law_early_cells, [], []⟩
abbrev D_law_same_run : He.DefD := ⟨("_law_same_run", none), "_law_same_run", "_law_same_run", defArgs s_law_same_run, defBody s_law_same_run, defScope s_law_same_run, [], []⟩
abbrev D_law : He.DefD := ⟨("law", none), "law", "law", defArgs s_law, defBody s_law, defScope s_law, [], []⟩
def U_TrueRun_init : SupD := ⟨"TrueRun", "Record", "TrueRun.__init__", PySem.Challenge.pw_toldonward_k80_whole_changes_keep_the_tr.main.file, defArgs s_TrueRun_init, defBody s_TrueRun_init, defScope s_TrueRun_init⟩
def us : List SupD := [U_TrueRun_init]
def fa0 : List He.Fa := [.glo "is_integer", .glo "is_name", .glo "are_names", .glo "are_named_pairs", .glo "do_read", .glo "do_peek", .glo "do_put", .glo "do_write", .glo "do_say", .glo "do_rows", .glo "run_truly", .glo "is_start", .glo "check_start", .glo "known_words", .glo "true_words", .glo "true_run", .glo "is_read_row", .glo "is_put_row", .glo "is_if_row", .glo "is_slot_row", .glo "is_write_row", .glo "check_of", .glo "is_valid_row", .glo "first_wrong_path", .glo "paths_of_rows", .glo "row_behind", .glo "rows_with", .glo "slots_in", .glo "names_of", .glo "is_path_form"]
def fa1 : List He.Fa := [.glo "check_parts", .glo "check_bodies", .glo "check_body", .glo "is_change", .glo "check_changes", .glo "with_changes", .glo "changed", .glo "changed_bodies", .glo "changed_rows", .glo "_law_state", .glo "_law_draw", .glo "_law_names", .glo "_law_many", .glo "_law_row", .glo "_law_rows", .glo "_law_parts", .glo "_law_program", .glo "_law_chosen", .glo "_law_paths", .glo "_law_all_paths", .glo "_law_changes", .glo "_law_starts", .glo "_law_early_cells", .glo "_law_same_run", .glo "law", .free "isinstance", .free "str", .free "tuple", .free "list", .free "len"]
def fa2 : List He.Fa := [.free "all", .free "set", .free "enumerate", .free "range", .free "abs", .free "int", .free "max", .free "dict", .free "zip", .free "any", .free "bool", .int "LONGEST_NAME" 8, .int "MOST_ROWS" 16, .int "DEEPEST_IF" 3, .int "LEAST_WORDS" 2, .int "MOST_WORDS" 4, .int "LEAST_SOURCES" 1, .int "MOST_SOURCES" 4, .int "MOST_DERIVED" 6, .int "MOST_EFFECTS" 4, .str "LETTERS" "abcdefghijklmnopqrstuvwxyz", .glo "ToldError", .glo "InvalidProgram", .glo "InvalidStart", .glo "InvalidPath", .glo "UnknownCell", .glo "InvalidChange", .glo "Record", .glo "TrueRun", .cls "TrueRun"]
def fa3 : List He.Fa := [.mkr "TrueRun", .noat "TrueRun" "default", .noat "TrueRun" "known", .noat "TrueRun" "slots", .noat "TrueRun" "noted", .noat "TrueRun" "peeked", .noat "TrueRun" "said", .noat "TrueRun" "written", .noat "TrueRun" "given", .meth "TrueRun" "word_in", .glo "Scope", .cls "Scope", .mkr "Scope", .noat "Scope" "kind", .noat "Scope" "words", .noat "Scope" "sources", .noat "Scope" "readable", .glo "Program", .cls "Program", .mkr "Program", .noat "Program" "words", .noat "Program" "sources", .noat "Program" "derived", .noat "Program" "effects", .noat "Program" "_derived_names", .noat "Program" "_effect_names", .meth "Program" "cells", .meth "Program" "derived_names", .meth "Program" "effect_names", .meth "Program" "body"]
def fa4 : List He.Fa := [.meth "Program" "row_paths", .meth "Program" "row_at", .meth "Program" "with_row", .meth "TrueRun" "parts", .glo "SLOT_PLACES", .glo "DERIVED_FORMS", .glo "EFFECT_FORMS", .glo "ACTIONS"]
def fa : List He.Fa := fa0 ++ (fa1 ++ (fa2 ++ (fa3 ++ (fa4))))
def fn0 : List He.DefD := [D_is_integer, D_is_name, D_are_names, D_are_named_pairs, D_InvalidProgram_init, D_InvalidStart_init, D_InvalidPath_init, D_UnknownCell_init, D_InvalidChange_init, D_Record_init, D_Record_parts, D_TrueRun_word_in, D_do_read, D_do_peek, D_do_put, D_do_write, D_do_say, D_do_rows, D_run_truly, D_is_start, D_check_start, D_known_words, D_true_words, D_true_run, D_Scope_init, D_is_read_row, D_is_put_row, D_is_if_row, D_is_slot_row, D_is_write_row]
def fn1 : List He.DefD := [D_check_of, D_is_valid_row, D_first_wrong_path, D_paths_of_rows, D_row_behind, D_rows_with, D_slots_in, D_Program_init, D_Program_eq, D_Program_cells, D_Program_derived_names, D_Program_effect_names, D_Program_body, D_Program_row_paths, D_Program_row_at, D_Program_with_row, D_names_of, D_is_path_form, D_check_parts, D_check_bodies, D_check_body, D_is_change, D_check_changes, D_with_changes, D_changed, D_changed_bodies, D_changed_rows, D_law_state, D_law_draw, D_law_names]
def fn2 : List He.DefD := [D_law_many, D_law_row, D_law_rows, D_law_parts, D_law_program, D_law_chosen, D_law_paths, D_law_all_paths, D_law_changes, D_law_starts, D_law_early_cells, D_law_same_run, D_law]
def fn : List He.DefD := fn0 ++ (fn1 ++ (fn2))
def ts : List He.Tab := [(fun K => He.ga K "SLOT_PLACES", ["read", "peek", "put", "if", "give", "write", "say"]), (fun K => He.ga K "DERIVED_FORMS", ["read", "put", "if", "give"]), (fun K => He.ga K "EFFECT_FORMS", ["read", "peek", "put", "if", "write", "say"]), (fun K => He.ga K "ACTIONS", ["read", "peek", "put", "write", "say"])]
def vt : List (Str × List (Str × He.Dv)) := [("SLOT_PLACES", [("read", He.Dv.int 2), ("peek", He.Dv.int 2), ("put", He.Dv.int 1), ("if", He.Dv.int 1), ("give", He.Dv.int 1), ("write", He.Dv.int 2), ("say", He.Dv.int 1)]), ("DERIVED_FORMS", [("read", He.Dv.glo "is_read_row"), ("put", He.Dv.glo "is_put_row"), ("if", He.Dv.glo "is_if_row"), ("give", He.Dv.glo "is_slot_row")]), ("EFFECT_FORMS", [("read", He.Dv.glo "is_read_row"), ("peek", He.Dv.glo "is_read_row"), ("put", He.Dv.glo "is_put_row"), ("if", He.Dv.glo "is_if_row"), ("write", He.Dv.glo "is_write_row"), ("say", He.Dv.glo "is_slot_row")]), ("ACTIONS", [("read", He.Dv.glo "do_read"), ("peek", He.Dv.glo "do_peek"), ("put", He.Dv.glo "do_put"), ("write", He.Dv.glo "do_write"), ("say", He.Dv.glo "do_say")])]
def ex (K : PySem.W.Frag) : Bool := vt.all fun t => He.valsB K (He.ga K t.1) t.2
theorem fun_of {K : PySem.W.Frag} {x qual : Str} {st : Stmt} {f : Addr} (h : ∃ fd, FunD K x qual (defArgs st) (defBody st) (defScope st) [] [] f fd) : ∃ fd, Fun K x qual st f fd := by
  obtain ⟨fd, F⟩ := h
  obtain ⟨oc, od, dV, kV, doc, pm, an, cdv, ct, osl, e, lk, hcd, hD, hK⟩ := F.ex
  rcases hD with ⟨_, rfl⟩ | ⟨z, _⟩
  · exact ⟨fd, ⟨oc, od, kV, doc, pm, an, cdv, ct, osl, e, lk, hcd⟩, F.kp⟩
  · exact absurd rfl z
theorem val_of {K : PySem.W.Frag} {t : Str × List (Str × He.Dv)} (h : He.valsB K (He.ga K t.1) t.2 = true) (q : Str × He.Dv) (hq : q ∈ t.2) : ∃ u, PySem.W.nsIn K (He.ga K t.1) q.1 = some (some u) ∧ RelV (q.2.v K) u := He.valsB_ok h hq
theorem kdct_of {K : PySem.W.Frag} {w : World} {a : Addr} {es : Array DictEntry} {n : Nat} {x : Str} {v : V} (l : K.lookup a = some ⟨.type "dict", none, .dict es n, #[]⟩) (y : PySem.W.KeysLit w.params es.toList) (h : ∃ u, PySem.W.nsIn K a x = some (some u) ∧ RelV v u) : KDct K w a x v := by
  obtain ⟨u, h1, h2⟩ := h
  exact ⟨es, n, u, l, y, h1, h2⟩
theorem law_binds {K : PySem.W.Frag} {x qual : Str} {st : Stmt} {f : Addr} {fd : FuncData} {ps : List Str} (F : Fun K x qual st f fd)
    (h : ∀ (kV doc pm : Value) (an : Option Addr) (cdv ct : Value) (us : List Value), us.length = ps.length → bindArgs (PySem.W.fnOf x qual (defArgs st) (defBody st) (defScope st) .none kV doc pm an cdv ct) ⟨us, []⟩ = pure (ps.zip us)) (s : Shared) (us : List Value) (hl : us.length = ps.length) : BindsTo s fd ⟨us, []⟩ (ps.zip us) := by
  obtain ⟨oc, od, kV, doc, pm, an, cdv, ct, osl, rfl, lk, hcd⟩ := F.ex
  exact .of_eq (h kV doc pm an cdv ct us hl)
theorem tops {w : World} {K : PySem.W.Frag} {h : Heap} {mg : Str → Option Value} (X : K.In h) (G : h.Ns mainGlobals mg) (c : SaysU fa fn ts us ex w K) : ∃ T : Tops w K mg, ∀ (s : Shared) (u : Value), BindsTo s T.d_law ⟨[u], []⟩ [("_law_script", u)] := by
  obtain ⟨d_is_integer, F_is_integer⟩ := fun_of (x := "is_integer") (qual := "is_integer") (st := s_is_integer) (f := He.fAd K ("is_integer", none)) (c.t.d.def_ 0 (d := D_is_integer) rfl)
  obtain ⟨d_is_name, F_is_name⟩ := fun_of (x := "is_name") (qual := "is_name") (st := s_is_name) (f := He.fAd K ("is_name", none)) (c.t.d.def_ 1 (d := D_is_name) rfl)
  obtain ⟨d_are_names, F_are_names⟩ := fun_of (x := "are_names") (qual := "are_names") (st := s_are_names) (f := He.fAd K ("are_names", none)) (c.t.d.def_ 2 (d := D_are_names) rfl)
  obtain ⟨d_are_named_pairs, F_are_named_pairs⟩ := fun_of (x := "are_named_pairs") (qual := "are_named_pairs") (st := s_are_named_pairs) (f := He.fAd K ("are_named_pairs", none)) (c.t.d.def_ 3 (d := D_are_named_pairs) rfl)
  obtain ⟨d_InvalidProgram_init, F_InvalidProgram_init⟩ := fun_of (x := "__init__") (qual := "InvalidProgram.__init__") (st := s_InvalidProgram_init) (f := He.fAd K ("InvalidProgram", some "__init__")) (c.t.d.def_ 4 (d := D_InvalidProgram_init) rfl)
  obtain ⟨d_InvalidStart_init, F_InvalidStart_init⟩ := fun_of (x := "__init__") (qual := "InvalidStart.__init__") (st := s_InvalidStart_init) (f := He.fAd K ("InvalidStart", some "__init__")) (c.t.d.def_ 5 (d := D_InvalidStart_init) rfl)
  obtain ⟨d_InvalidPath_init, F_InvalidPath_init⟩ := fun_of (x := "__init__") (qual := "InvalidPath.__init__") (st := s_InvalidPath_init) (f := He.fAd K ("InvalidPath", some "__init__")) (c.t.d.def_ 6 (d := D_InvalidPath_init) rfl)
  obtain ⟨d_UnknownCell_init, F_UnknownCell_init⟩ := fun_of (x := "__init__") (qual := "UnknownCell.__init__") (st := s_UnknownCell_init) (f := He.fAd K ("UnknownCell", some "__init__")) (c.t.d.def_ 7 (d := D_UnknownCell_init) rfl)
  obtain ⟨d_InvalidChange_init, F_InvalidChange_init⟩ := fun_of (x := "__init__") (qual := "InvalidChange.__init__") (st := s_InvalidChange_init) (f := He.fAd K ("InvalidChange", some "__init__")) (c.t.d.def_ 8 (d := D_InvalidChange_init) rfl)
  obtain ⟨d_Record_init, F_Record_init⟩ := fun_of (x := "__init__") (qual := "Record.__init__") (st := s_Record_init) (f := He.fAd K ("Record", some "__init__")) (c.t.d.def_ 9 (d := D_Record_init) rfl)
  obtain ⟨d_Record_parts, F_Record_parts⟩ := fun_of (x := "parts") (qual := "Record.parts") (st := s_Record_parts) (f := He.fAd K ("TrueRun", some "parts")) (c.t.d.def_ 10 (d := D_Record_parts) rfl)
  obtain ⟨d_TrueRun_word_in, F_TrueRun_word_in⟩ := fun_of (x := "word_in") (qual := "TrueRun.word_in") (st := s_TrueRun_word_in) (f := He.fAd K ("TrueRun", some "word_in")) (c.t.d.def_ 11 (d := D_TrueRun_word_in) rfl)
  obtain ⟨d_do_read, F_do_read⟩ := fun_of (x := "do_read") (qual := "do_read") (st := s_do_read) (f := He.fAd K ("do_read", none)) (c.t.d.def_ 12 (d := D_do_read) rfl)
  obtain ⟨d_do_peek, F_do_peek⟩ := fun_of (x := "do_peek") (qual := "do_peek") (st := s_do_peek) (f := He.fAd K ("do_peek", none)) (c.t.d.def_ 13 (d := D_do_peek) rfl)
  obtain ⟨d_do_put, F_do_put⟩ := fun_of (x := "do_put") (qual := "do_put") (st := s_do_put) (f := He.fAd K ("do_put", none)) (c.t.d.def_ 14 (d := D_do_put) rfl)
  obtain ⟨d_do_write, F_do_write⟩ := fun_of (x := "do_write") (qual := "do_write") (st := s_do_write) (f := He.fAd K ("do_write", none)) (c.t.d.def_ 15 (d := D_do_write) rfl)
  obtain ⟨d_do_say, F_do_say⟩ := fun_of (x := "do_say") (qual := "do_say") (st := s_do_say) (f := He.fAd K ("do_say", none)) (c.t.d.def_ 16 (d := D_do_say) rfl)
  obtain ⟨d_do_rows, F_do_rows⟩ := fun_of (x := "do_rows") (qual := "do_rows") (st := s_do_rows) (f := He.fAd K ("do_rows", none)) (c.t.d.def_ 17 (d := D_do_rows) rfl)
  obtain ⟨d_run_truly, F_run_truly⟩ := fun_of (x := "run_truly") (qual := "run_truly") (st := s_run_truly) (f := He.fAd K ("run_truly", none)) (c.t.d.def_ 18 (d := D_run_truly) rfl)
  obtain ⟨d_is_start, F_is_start⟩ := fun_of (x := "is_start") (qual := "is_start") (st := s_is_start) (f := He.fAd K ("is_start", none)) (c.t.d.def_ 19 (d := D_is_start) rfl)
  obtain ⟨d_check_start, F_check_start⟩ := fun_of (x := "check_start") (qual := "check_start") (st := s_check_start) (f := He.fAd K ("check_start", none)) (c.t.d.def_ 20 (d := D_check_start) rfl)
  obtain ⟨d_known_words, F_known_words⟩ := fun_of (x := "known_words") (qual := "known_words") (st := s_known_words) (f := He.fAd K ("known_words", none)) (c.t.d.def_ 21 (d := D_known_words) rfl)
  obtain ⟨d_true_words, F_true_words⟩ := fun_of (x := "true_words") (qual := "true_words") (st := s_true_words) (f := He.fAd K ("true_words", none)) (c.t.d.def_ 22 (d := D_true_words) rfl)
  obtain ⟨d_true_run, F_true_run⟩ := fun_of (x := "true_run") (qual := "true_run") (st := s_true_run) (f := He.fAd K ("true_run", none)) (c.t.d.def_ 23 (d := D_true_run) rfl)
  obtain ⟨d_Scope_init, F_Scope_init⟩ := fun_of (x := "__init__") (qual := "Scope.__init__") (st := s_Scope_init) (f := He.fAd K ("Scope", some "__init__")) (c.t.d.def_ 24 (d := D_Scope_init) rfl)
  obtain ⟨d_is_read_row, F_is_read_row⟩ := fun_of (x := "is_read_row") (qual := "is_read_row") (st := s_is_read_row) (f := He.fAd K ("is_read_row", none)) (c.t.d.def_ 25 (d := D_is_read_row) rfl)
  obtain ⟨d_is_put_row, F_is_put_row⟩ := fun_of (x := "is_put_row") (qual := "is_put_row") (st := s_is_put_row) (f := He.fAd K ("is_put_row", none)) (c.t.d.def_ 26 (d := D_is_put_row) rfl)
  obtain ⟨d_is_if_row, F_is_if_row⟩ := fun_of (x := "is_if_row") (qual := "is_if_row") (st := s_is_if_row) (f := He.fAd K ("is_if_row", none)) (c.t.d.def_ 27 (d := D_is_if_row) rfl)
  obtain ⟨d_is_slot_row, F_is_slot_row⟩ := fun_of (x := "is_slot_row") (qual := "is_slot_row") (st := s_is_slot_row) (f := He.fAd K ("is_slot_row", none)) (c.t.d.def_ 28 (d := D_is_slot_row) rfl)
  obtain ⟨d_is_write_row, F_is_write_row⟩ := fun_of (x := "is_write_row") (qual := "is_write_row") (st := s_is_write_row) (f := He.fAd K ("is_write_row", none)) (c.t.d.def_ 29 (d := D_is_write_row) rfl)
  obtain ⟨d_check_of, F_check_of⟩ := fun_of (x := "check_of") (qual := "check_of") (st := s_check_of) (f := He.fAd K ("check_of", none)) (c.t.d.def_ 30 (d := D_check_of) rfl)
  obtain ⟨d_is_valid_row, F_is_valid_row⟩ := fun_of (x := "is_valid_row") (qual := "is_valid_row") (st := s_is_valid_row) (f := He.fAd K ("is_valid_row", none)) (c.t.d.def_ 31 (d := D_is_valid_row) rfl)
  obtain ⟨d_first_wrong_path, F_first_wrong_path⟩ := fun_of (x := "first_wrong_path") (qual := "first_wrong_path") (st := s_first_wrong_path) (f := He.fAd K ("first_wrong_path", none)) (c.t.d.def_ 32 (d := D_first_wrong_path) rfl)
  obtain ⟨d_paths_of_rows, F_paths_of_rows⟩ := fun_of (x := "paths_of_rows") (qual := "paths_of_rows") (st := s_paths_of_rows) (f := He.fAd K ("paths_of_rows", none)) (c.t.d.def_ 33 (d := D_paths_of_rows) rfl)
  obtain ⟨d_row_behind, F_row_behind⟩ := fun_of (x := "row_behind") (qual := "row_behind") (st := s_row_behind) (f := He.fAd K ("row_behind", none)) (c.t.d.def_ 34 (d := D_row_behind) rfl)
  obtain ⟨d_rows_with, F_rows_with⟩ := fun_of (x := "rows_with") (qual := "rows_with") (st := s_rows_with) (f := He.fAd K ("rows_with", none)) (c.t.d.def_ 35 (d := D_rows_with) rfl)
  obtain ⟨d_slots_in, F_slots_in⟩ := fun_of (x := "slots_in") (qual := "slots_in") (st := s_slots_in) (f := He.fAd K ("slots_in", none)) (c.t.d.def_ 36 (d := D_slots_in) rfl)
  obtain ⟨d_Program_init, F_Program_init⟩ := fun_of (x := "__init__") (qual := "Program.__init__") (st := s_Program_init) (f := He.fAd K ("Program", some "__init__")) (c.t.d.def_ 37 (d := D_Program_init) rfl)
  obtain ⟨d_Program_eq, F_Program_eq⟩ := fun_of (x := "__eq__") (qual := "Program.__eq__") (st := s_Program_eq) (f := He.fAd K ("Program", some "__eq__")) (c.t.d.def_ 38 (d := D_Program_eq) rfl)
  obtain ⟨d_Program_cells, F_Program_cells⟩ := fun_of (x := "cells") (qual := "Program.cells") (st := s_Program_cells) (f := He.fAd K ("Program", some "cells")) (c.t.d.def_ 39 (d := D_Program_cells) rfl)
  obtain ⟨d_Program_derived_names, F_Program_derived_names⟩ := fun_of (x := "derived_names") (qual := "Program.derived_names") (st := s_Program_derived_names) (f := He.fAd K ("Program", some "derived_names")) (c.t.d.def_ 40 (d := D_Program_derived_names) rfl)
  obtain ⟨d_Program_effect_names, F_Program_effect_names⟩ := fun_of (x := "effect_names") (qual := "Program.effect_names") (st := s_Program_effect_names) (f := He.fAd K ("Program", some "effect_names")) (c.t.d.def_ 41 (d := D_Program_effect_names) rfl)
  obtain ⟨d_Program_body, F_Program_body⟩ := fun_of (x := "body") (qual := "Program.body") (st := s_Program_body) (f := He.fAd K ("Program", some "body")) (c.t.d.def_ 42 (d := D_Program_body) rfl)
  obtain ⟨d_Program_row_paths, F_Program_row_paths⟩ := fun_of (x := "row_paths") (qual := "Program.row_paths") (st := s_Program_row_paths) (f := He.fAd K ("Program", some "row_paths")) (c.t.d.def_ 43 (d := D_Program_row_paths) rfl)
  obtain ⟨d_Program_row_at, F_Program_row_at⟩ := fun_of (x := "row_at") (qual := "Program.row_at") (st := s_Program_row_at) (f := He.fAd K ("Program", some "row_at")) (c.t.d.def_ 44 (d := D_Program_row_at) rfl)
  obtain ⟨d_Program_with_row, F_Program_with_row⟩ := fun_of (x := "with_row") (qual := "Program.with_row") (st := s_Program_with_row) (f := He.fAd K ("Program", some "with_row")) (c.t.d.def_ 45 (d := D_Program_with_row) rfl)
  obtain ⟨d_names_of, F_names_of⟩ := fun_of (x := "names_of") (qual := "names_of") (st := s_names_of) (f := He.fAd K ("names_of", none)) (c.t.d.def_ 46 (d := D_names_of) rfl)
  obtain ⟨d_is_path_form, F_is_path_form⟩ := fun_of (x := "is_path_form") (qual := "is_path_form") (st := s_is_path_form) (f := He.fAd K ("is_path_form", none)) (c.t.d.def_ 47 (d := D_is_path_form) rfl)
  obtain ⟨d_check_parts, F_check_parts⟩ := fun_of (x := "check_parts") (qual := "check_parts") (st := s_check_parts) (f := He.fAd K ("check_parts", none)) (c.t.d.def_ 48 (d := D_check_parts) rfl)
  obtain ⟨d_check_bodies, F_check_bodies⟩ := fun_of (x := "check_bodies") (qual := "check_bodies") (st := s_check_bodies) (f := He.fAd K ("check_bodies", none)) (c.t.d.def_ 49 (d := D_check_bodies) rfl)
  obtain ⟨d_check_body, F_check_body⟩ := fun_of (x := "check_body") (qual := "check_body") (st := s_check_body) (f := He.fAd K ("check_body", none)) (c.t.d.def_ 50 (d := D_check_body) rfl)
  obtain ⟨d_is_change, F_is_change⟩ := fun_of (x := "is_change") (qual := "is_change") (st := s_is_change) (f := He.fAd K ("is_change", none)) (c.t.d.def_ 51 (d := D_is_change) rfl)
  obtain ⟨d_check_changes, F_check_changes⟩ := fun_of (x := "check_changes") (qual := "check_changes") (st := s_check_changes) (f := He.fAd K ("check_changes", none)) (c.t.d.def_ 52 (d := D_check_changes) rfl)
  obtain ⟨d_with_changes, F_with_changes⟩ := fun_of (x := "with_changes") (qual := "with_changes") (st := s_with_changes) (f := He.fAd K ("with_changes", none)) (c.t.d.def_ 53 (d := D_with_changes) rfl)
  obtain ⟨d_changed, F_changed⟩ := fun_of (x := "changed") (qual := "changed") (st := s_changed) (f := He.fAd K ("changed", none)) (c.t.d.def_ 54 (d := D_changed) rfl)
  obtain ⟨d_changed_bodies, F_changed_bodies⟩ := fun_of (x := "changed_bodies") (qual := "changed_bodies") (st := s_changed_bodies) (f := He.fAd K ("changed_bodies", none)) (c.t.d.def_ 55 (d := D_changed_bodies) rfl)
  obtain ⟨d_changed_rows, F_changed_rows⟩ := fun_of (x := "changed_rows") (qual := "changed_rows") (st := s_changed_rows) (f := He.fAd K ("changed_rows", none)) (c.t.d.def_ 56 (d := D_changed_rows) rfl)
  obtain ⟨d_law_state, F_law_state⟩ := fun_of (x := "_law_state") (qual := "_law_state") (st := s_law_state) (f := He.fAd K ("_law_state", none)) (c.t.d.def_ 57 (d := D_law_state) rfl)
  obtain ⟨d_law_draw, F_law_draw⟩ := fun_of (x := "_law_draw") (qual := "_law_draw") (st := s_law_draw) (f := He.fAd K ("_law_draw", none)) (c.t.d.def_ 58 (d := D_law_draw) rfl)
  obtain ⟨d_law_names, F_law_names⟩ := fun_of (x := "_law_names") (qual := "_law_names") (st := s_law_names) (f := He.fAd K ("_law_names", none)) (c.t.d.def_ 59 (d := D_law_names) rfl)
  obtain ⟨d_law_many, F_law_many⟩ := fun_of (x := "_law_many") (qual := "_law_many") (st := s_law_many) (f := He.fAd K ("_law_many", none)) (c.t.d.def_ 60 (d := D_law_many) rfl)
  obtain ⟨d_law_row, F_law_row⟩ := fun_of (x := "_law_row") (qual := "_law_row") (st := s_law_row) (f := He.fAd K ("_law_row", none)) (c.t.d.def_ 61 (d := D_law_row) rfl)
  obtain ⟨d_law_rows, F_law_rows⟩ := fun_of (x := "_law_rows") (qual := "_law_rows") (st := s_law_rows) (f := He.fAd K ("_law_rows", none)) (c.t.d.def_ 62 (d := D_law_rows) rfl)
  obtain ⟨d_law_parts, F_law_parts⟩ := fun_of (x := "_law_parts") (qual := "_law_parts") (st := s_law_parts) (f := He.fAd K ("_law_parts", none)) (c.t.d.def_ 63 (d := D_law_parts) rfl)
  obtain ⟨d_law_program, F_law_program⟩ := fun_of (x := "_law_program") (qual := "_law_program") (st := s_law_program) (f := He.fAd K ("_law_program", none)) (c.t.d.def_ 64 (d := D_law_program) rfl)
  obtain ⟨d_law_chosen, F_law_chosen⟩ := fun_of (x := "_law_chosen") (qual := "_law_chosen") (st := s_law_chosen) (f := He.fAd K ("_law_chosen", none)) (c.t.d.def_ 65 (d := D_law_chosen) rfl)
  obtain ⟨d_law_paths, F_law_paths⟩ := fun_of (x := "_law_paths") (qual := "_law_paths") (st := s_law_paths) (f := He.fAd K ("_law_paths", none)) (c.t.d.def_ 66 (d := D_law_paths) rfl)
  obtain ⟨d_law_all_paths, F_law_all_paths⟩ := fun_of (x := "_law_all_paths") (qual := "_law_all_paths") (st := s_law_all_paths) (f := He.fAd K ("_law_all_paths", none)) (c.t.d.def_ 67 (d := D_law_all_paths) rfl)
  obtain ⟨d_law_changes, F_law_changes⟩ := fun_of (x := "_law_changes") (qual := "_law_changes") (st := s_law_changes) (f := He.fAd K ("_law_changes", none)) (c.t.d.def_ 68 (d := D_law_changes) rfl)
  obtain ⟨d_law_starts, F_law_starts⟩ := fun_of (x := "_law_starts") (qual := "_law_starts") (st := s_law_starts) (f := He.fAd K ("_law_starts", none)) (c.t.d.def_ 69 (d := D_law_starts) rfl)
  obtain ⟨d_law_early_cells, F_law_early_cells⟩ := fun_of (x := "_law_early_cells") (qual := "_law_early_cells") (st := s_law_early_cells) (f := He.fAd K ("_law_early_cells", none)) (c.t.d.def_ 70 (d := D_law_early_cells) rfl)
  obtain ⟨d_law_same_run, F_law_same_run⟩ := fun_of (x := "_law_same_run") (qual := "_law_same_run") (st := s_law_same_run) (f := He.fAd K ("_law_same_run", none)) (c.t.d.def_ 71 (d := D_law_same_run) rfl)
  obtain ⟨d_law, F_law⟩ := fun_of (x := "law") (qual := "law") (st := s_law) (f := He.fAd K ("law", none)) (c.t.d.def_ 72 (d := D_law) rfl)
  obtain ⟨d_TrueRun_init, F_TrueRun_init⟩ := sup_of (P := PySem.Challenge.pw_toldonward_k80_whole_changes_keep_the_tr) (d := U_TrueRun_init) (st := s_TrueRun_init) rfl rfl rfl (by kernel_rfl) (c.us U_TrueRun_init (by simp [us])).2 (c.us U_TrueRun_init (by simp [us])).1
  obtain ⟨u_LONGEST_NAME, e_LONGEST_NAME⟩ := He.int_ok X G (c.t.d.fact 71 (f := .int "LONGEST_NAME" 8) rfl)
  obtain ⟨u_MOST_ROWS, e_MOST_ROWS⟩ := He.int_ok X G (c.t.d.fact 72 (f := .int "MOST_ROWS" 16) rfl)
  obtain ⟨u_DEEPEST_IF, e_DEEPEST_IF⟩ := He.int_ok X G (c.t.d.fact 73 (f := .int "DEEPEST_IF" 3) rfl)
  obtain ⟨u_LEAST_WORDS, e_LEAST_WORDS⟩ := He.int_ok X G (c.t.d.fact 74 (f := .int "LEAST_WORDS" 2) rfl)
  obtain ⟨u_MOST_WORDS, e_MOST_WORDS⟩ := He.int_ok X G (c.t.d.fact 75 (f := .int "MOST_WORDS" 4) rfl)
  obtain ⟨u_LEAST_SOURCES, e_LEAST_SOURCES⟩ := He.int_ok X G (c.t.d.fact 76 (f := .int "LEAST_SOURCES" 1) rfl)
  obtain ⟨u_MOST_SOURCES, e_MOST_SOURCES⟩ := He.int_ok X G (c.t.d.fact 77 (f := .int "MOST_SOURCES" 4) rfl)
  obtain ⟨u_MOST_DERIVED, e_MOST_DERIVED⟩ := He.int_ok X G (c.t.d.fact 78 (f := .int "MOST_DERIVED" 6) rfl)
  obtain ⟨u_MOST_EFFECTS, e_MOST_EFFECTS⟩ := He.int_ok X G (c.t.d.fact 79 (f := .int "MOST_EFFECTS" 4) rfl)
  obtain ⟨u_LETTERS, e_LETTERS⟩ := He.str_ok X G (c.t.d.fact 80 (f := .str "LETTERS" "abcdefghijklmnopqrstuvwxyz") rfl)
  obtain ⟨es_SLOT_PLACES, n_SLOT_PLACES, L_SLOT_PLACES, Y_SLOT_PLACES, S_SLOT_PLACES⟩ := c.t.tab 0 (t := (fun K => He.ga K "SLOT_PLACES", ["read", "peek", "put", "if", "give", "write", "say"])) rfl
  have V_SLOT_PLACES := val_of (List.all_eq_true.mp c.more (("SLOT_PLACES" : Str), ([("read", He.Dv.int 2), ("peek", He.Dv.int 2), ("put", He.Dv.int 1), ("if", He.Dv.int 1), ("give", He.Dv.int 1), ("write", He.Dv.int 2), ("say", He.Dv.int 1)] : List (Str × He.Dv))) (by simp [vt]))
  obtain ⟨es_DERIVED_FORMS, n_DERIVED_FORMS, L_DERIVED_FORMS, Y_DERIVED_FORMS, S_DERIVED_FORMS⟩ := c.t.tab 1 (t := (fun K => He.ga K "DERIVED_FORMS", ["read", "put", "if", "give"])) rfl
  have V_DERIVED_FORMS := val_of (List.all_eq_true.mp c.more (("DERIVED_FORMS" : Str), ([("read", He.Dv.glo "is_read_row"), ("put", He.Dv.glo "is_put_row"), ("if", He.Dv.glo "is_if_row"), ("give", He.Dv.glo "is_slot_row")] : List (Str × He.Dv))) (by simp [vt]))
  obtain ⟨es_EFFECT_FORMS, n_EFFECT_FORMS, L_EFFECT_FORMS, Y_EFFECT_FORMS, S_EFFECT_FORMS⟩ := c.t.tab 2 (t := (fun K => He.ga K "EFFECT_FORMS", ["read", "peek", "put", "if", "write", "say"])) rfl
  have V_EFFECT_FORMS := val_of (List.all_eq_true.mp c.more (("EFFECT_FORMS" : Str), ([("read", He.Dv.glo "is_read_row"), ("peek", He.Dv.glo "is_read_row"), ("put", He.Dv.glo "is_put_row"), ("if", He.Dv.glo "is_if_row"), ("write", He.Dv.glo "is_write_row"), ("say", He.Dv.glo "is_slot_row")] : List (Str × He.Dv))) (by simp [vt]))
  obtain ⟨es_ACTIONS, n_ACTIONS, L_ACTIONS, Y_ACTIONS, S_ACTIONS⟩ := c.t.tab 3 (t := (fun K => He.ga K "ACTIONS", ["read", "peek", "put", "write", "say"])) rfl
  have V_ACTIONS := val_of (List.all_eq_true.mp c.more (("ACTIONS" : Str), ([("read", He.Dv.glo "do_read"), ("peek", He.Dv.glo "do_peek"), ("put", He.Dv.glo "do_put"), ("write", He.Dv.glo "do_write"), ("say", He.Dv.glo "do_say")] : List (Str × He.Dv))) (by simp [vt]))
  exact ⟨{
    z_isinstance := He.free_ok X G (c.t.d.fact 55 (f := .free "isinstance") rfl)
    z_str := He.free_ok X G (c.t.d.fact 56 (f := .free "str") rfl)
    z_tuple := He.free_ok X G (c.t.d.fact 57 (f := .free "tuple") rfl)
    z_list := He.free_ok X G (c.t.d.fact 58 (f := .free "list") rfl)
    z_len := He.free_ok X G (c.t.d.fact 59 (f := .free "len") rfl)
    z_all := He.free_ok X G (c.t.d.fact 60 (f := .free "all") rfl)
    z_set := He.free_ok X G (c.t.d.fact 61 (f := .free "set") rfl)
    z_enumerate := He.free_ok X G (c.t.d.fact 62 (f := .free "enumerate") rfl)
    z_range := He.free_ok X G (c.t.d.fact 63 (f := .free "range") rfl)
    z_abs := He.free_ok X G (c.t.d.fact 64 (f := .free "abs") rfl)
    z_int := He.free_ok X G (c.t.d.fact 65 (f := .free "int") rfl)
    z_max := He.free_ok X G (c.t.d.fact 66 (f := .free "max") rfl)
    z_dict := He.free_ok X G (c.t.d.fact 67 (f := .free "dict") rfl)
    z_zip := He.free_ok X G (c.t.d.fact 68 (f := .free "zip") rfl)
    z_any := He.free_ok X G (c.t.d.fact 69 (f := .free "any") rfl)
    z_bool := He.free_ok X G (c.t.d.fact 70 (f := .free "bool") rfl)
    u_LONGEST_NAME := u_LONGEST_NAME
    c_LONGEST_NAME := e_LONGEST_NAME
    u_MOST_ROWS := u_MOST_ROWS
    c_MOST_ROWS := e_MOST_ROWS
    u_DEEPEST_IF := u_DEEPEST_IF
    c_DEEPEST_IF := e_DEEPEST_IF
    u_LEAST_WORDS := u_LEAST_WORDS
    c_LEAST_WORDS := e_LEAST_WORDS
    u_MOST_WORDS := u_MOST_WORDS
    c_MOST_WORDS := e_MOST_WORDS
    u_LEAST_SOURCES := u_LEAST_SOURCES
    c_LEAST_SOURCES := e_LEAST_SOURCES
    u_MOST_SOURCES := u_MOST_SOURCES
    c_MOST_SOURCES := e_MOST_SOURCES
    u_MOST_DERIVED := u_MOST_DERIVED
    c_MOST_DERIVED := e_MOST_DERIVED
    u_MOST_EFFECTS := u_MOST_EFFECTS
    c_MOST_EFFECTS := e_MOST_EFFECTS
    u_LETTERS := u_LETTERS
    c_LETTERS := e_LETTERS
    a_is_integer := He.fAd K ("is_integer", none)
    d_is_integer := d_is_integer
    F_is_integer := F_is_integer
    b_is_integer := F_is_integer.binds (ps := ["value"]) fun _ _ _ _ _ _ us hl => match us, hl with | [_], _ => rfl
    m_is_integer := He.glo_ok X G (c.t.d.fact 0 (f := .glo "is_integer") rfl)
    a_is_name := He.fAd K ("is_name", none)
    d_is_name := d_is_name
    F_is_name := F_is_name
    b_is_name := F_is_name.binds (ps := ["value"]) fun _ _ _ _ _ _ us hl => match us, hl with | [_], _ => rfl
    m_is_name := He.glo_ok X G (c.t.d.fact 1 (f := .glo "is_name") rfl)
    a_are_names := He.fAd K ("are_names", none)
    d_are_names := d_are_names
    F_are_names := F_are_names
    b_are_names := F_are_names.binds (ps := ["value", "least", "most"]) fun _ _ _ _ _ _ us hl => match us, hl with | [_, _, _], _ => rfl
    m_are_names := He.glo_ok X G (c.t.d.fact 2 (f := .glo "are_names") rfl)
    a_are_named_pairs := He.fAd K ("are_named_pairs", none)
    d_are_named_pairs := d_are_named_pairs
    F_are_named_pairs := F_are_named_pairs
    b_are_named_pairs := F_are_named_pairs.binds (ps := ["value", "most", "taken"]) fun _ _ _ _ _ _ us hl => match us, hl with | [_, _, _], _ => rfl
    m_are_named_pairs := He.glo_ok X G (c.t.d.fact 3 (f := .glo "are_named_pairs") rfl)
    a_InvalidProgram_init := He.fAd K ("InvalidProgram", some "__init__")
    d_InvalidProgram_init := d_InvalidProgram_init
    F_InvalidProgram_init := F_InvalidProgram_init
    b_InvalidProgram_init := F_InvalidProgram_init.binds (ps := ["self", "part", "path"]) fun _ _ _ _ _ _ us hl => match us, hl with | [_, _, _], _ => rfl
    a_InvalidStart_init := He.fAd K ("InvalidStart", some "__init__")
    d_InvalidStart_init := d_InvalidStart_init
    F_InvalidStart_init := F_InvalidStart_init
    b_InvalidStart_init := F_InvalidStart_init.binds (ps := ["self", "words"]) fun _ _ _ _ _ _ us hl => match us, hl with | [_, _], _ => rfl
    a_InvalidPath_init := He.fAd K ("InvalidPath", some "__init__")
    d_InvalidPath_init := d_InvalidPath_init
    F_InvalidPath_init := F_InvalidPath_init
    b_InvalidPath_init := F_InvalidPath_init.binds (ps := ["self", "path"]) fun _ _ _ _ _ _ us hl => match us, hl with | [_, _], _ => rfl
    a_UnknownCell_init := He.fAd K ("UnknownCell", some "__init__")
    d_UnknownCell_init := d_UnknownCell_init
    F_UnknownCell_init := F_UnknownCell_init
    b_UnknownCell_init := F_UnknownCell_init.binds (ps := ["self", "name"]) fun _ _ _ _ _ _ us hl => match us, hl with | [_, _], _ => rfl
    a_InvalidChange_init := He.fAd K ("InvalidChange", some "__init__")
    d_InvalidChange_init := d_InvalidChange_init
    F_InvalidChange_init := F_InvalidChange_init
    b_InvalidChange_init := F_InvalidChange_init.binds (ps := ["self", "index"]) fun _ _ _ _ _ _ us hl => match us, hl with | [_, _], _ => rfl
    a_Record_init := He.fAd K ("Record", some "__init__")
    d_Record_init := d_Record_init
    F_Record_init := F_Record_init
    b_Record_init := F_Record_init.binds (ps := ["self"]) fun _ _ _ _ _ _ us hl => match us, hl with | [_], _ => rfl
    a_Record_parts := He.fAd K ("TrueRun", some "parts")
    d_Record_parts := d_Record_parts
    F_Record_parts := F_Record_parts
    b_Record_parts := F_Record_parts.binds (ps := ["self"]) fun _ _ _ _ _ _ us hl => match us, hl with | [_], _ => rfl
    a_TrueRun_init := He.fAd K ("TrueRun", some "__init__")
    d_TrueRun_init := d_TrueRun_init
    a_TrueRun_word_in := He.fAd K ("TrueRun", some "word_in")
    d_TrueRun_word_in := d_TrueRun_word_in
    F_TrueRun_word_in := F_TrueRun_word_in
    b_TrueRun_word_in := F_TrueRun_word_in.binds (ps := ["self", "slot"]) fun _ _ _ _ _ _ us hl => match us, hl with | [_, _], _ => rfl
    a_do_read := He.fAd K ("do_read", none)
    d_do_read := d_do_read
    F_do_read := F_do_read
    b_do_read := F_do_read.binds (ps := ["run", "row"]) fun _ _ _ _ _ _ us hl => match us, hl with | [_, _], _ => rfl
    m_do_read := He.glo_ok X G (c.t.d.fact 4 (f := .glo "do_read") rfl)
    a_do_peek := He.fAd K ("do_peek", none)
    d_do_peek := d_do_peek
    F_do_peek := F_do_peek
    b_do_peek := F_do_peek.binds (ps := ["run", "row"]) fun _ _ _ _ _ _ us hl => match us, hl with | [_, _], _ => rfl
    m_do_peek := He.glo_ok X G (c.t.d.fact 5 (f := .glo "do_peek") rfl)
    a_do_put := He.fAd K ("do_put", none)
    d_do_put := d_do_put
    F_do_put := F_do_put
    b_do_put := F_do_put.binds (ps := ["run", "row"]) fun _ _ _ _ _ _ us hl => match us, hl with | [_, _], _ => rfl
    m_do_put := He.glo_ok X G (c.t.d.fact 6 (f := .glo "do_put") rfl)
    a_do_write := He.fAd K ("do_write", none)
    d_do_write := d_do_write
    F_do_write := F_do_write
    b_do_write := F_do_write.binds (ps := ["run", "row"]) fun _ _ _ _ _ _ us hl => match us, hl with | [_, _], _ => rfl
    m_do_write := He.glo_ok X G (c.t.d.fact 7 (f := .glo "do_write") rfl)
    a_do_say := He.fAd K ("do_say", none)
    d_do_say := d_do_say
    F_do_say := F_do_say
    b_do_say := F_do_say.binds (ps := ["run", "row"]) fun _ _ _ _ _ _ us hl => match us, hl with | [_, _], _ => rfl
    m_do_say := He.glo_ok X G (c.t.d.fact 8 (f := .glo "do_say") rfl)
    a_do_rows := He.fAd K ("do_rows", none)
    d_do_rows := d_do_rows
    F_do_rows := F_do_rows
    b_do_rows := F_do_rows.binds (ps := ["run", "rows"]) fun _ _ _ _ _ _ us hl => match us, hl with | [_, _], _ => rfl
    m_do_rows := He.glo_ok X G (c.t.d.fact 9 (f := .glo "do_rows") rfl)
    a_run_truly := He.fAd K ("run_truly", none)
    d_run_truly := d_run_truly
    F_run_truly := F_run_truly
    b_run_truly := F_run_truly.binds (ps := ["program", "known", "rows"]) fun _ _ _ _ _ _ us hl => match us, hl with | [_, _, _], _ => rfl
    m_run_truly := He.glo_ok X G (c.t.d.fact 10 (f := .glo "run_truly") rfl)
    a_is_start := He.fAd K ("is_start", none)
    d_is_start := d_is_start
    F_is_start := F_is_start
    b_is_start := F_is_start.binds (ps := ["program", "words"]) fun _ _ _ _ _ _ us hl => match us, hl with | [_, _], _ => rfl
    m_is_start := He.glo_ok X G (c.t.d.fact 11 (f := .glo "is_start") rfl)
    a_check_start := He.fAd K ("check_start", none)
    d_check_start := d_check_start
    F_check_start := F_check_start
    b_check_start := F_check_start.binds (ps := ["program", "words"]) fun _ _ _ _ _ _ us hl => match us, hl with | [_, _], _ => rfl
    m_check_start := He.glo_ok X G (c.t.d.fact 12 (f := .glo "check_start") rfl)
    a_known_words := He.fAd K ("known_words", none)
    d_known_words := d_known_words
    F_known_words := F_known_words
    b_known_words := F_known_words.binds (ps := ["program", "words"]) fun _ _ _ _ _ _ us hl => match us, hl with | [_, _], _ => rfl
    m_known_words := He.glo_ok X G (c.t.d.fact 13 (f := .glo "known_words") rfl)
    a_true_words := He.fAd K ("true_words", none)
    d_true_words := d_true_words
    F_true_words := F_true_words
    b_true_words := F_true_words.binds (ps := ["program", "words"]) fun _ _ _ _ _ _ us hl => match us, hl with | [_, _], _ => rfl
    m_true_words := He.glo_ok X G (c.t.d.fact 14 (f := .glo "true_words") rfl)
    a_true_run := He.fAd K ("true_run", none)
    d_true_run := d_true_run
    F_true_run := F_true_run
    b_true_run := F_true_run.binds (ps := ["program", "words", "name"]) fun _ _ _ _ _ _ us hl => match us, hl with | [_, _, _], _ => rfl
    m_true_run := He.glo_ok X G (c.t.d.fact 15 (f := .glo "true_run") rfl)
    a_Scope_init := He.fAd K ("Scope", some "__init__")
    d_Scope_init := d_Scope_init
    F_Scope_init := F_Scope_init
    b_Scope_init := F_Scope_init.binds (ps := ["self", "kind", "words", "sources", "readable"]) fun _ _ _ _ _ _ us hl => match us, hl with | [_, _, _, _, _], _ => rfl
    a_is_read_row := He.fAd K ("is_read_row", none)
    d_is_read_row := d_is_read_row
    F_is_read_row := F_is_read_row
    b_is_read_row := F_is_read_row.binds (ps := ["row", "scope"]) fun _ _ _ _ _ _ us hl => match us, hl with | [_, _], _ => rfl
    m_is_read_row := He.glo_ok X G (c.t.d.fact 16 (f := .glo "is_read_row") rfl)
    a_is_put_row := He.fAd K ("is_put_row", none)
    d_is_put_row := d_is_put_row
    F_is_put_row := F_is_put_row
    b_is_put_row := F_is_put_row.binds (ps := ["row", "scope"]) fun _ _ _ _ _ _ us hl => match us, hl with | [_, _], _ => rfl
    m_is_put_row := He.glo_ok X G (c.t.d.fact 17 (f := .glo "is_put_row") rfl)
    a_is_if_row := He.fAd K ("is_if_row", none)
    d_is_if_row := d_is_if_row
    F_is_if_row := F_is_if_row
    b_is_if_row := F_is_if_row.binds (ps := ["row", "scope"]) fun _ _ _ _ _ _ us hl => match us, hl with | [_, _], _ => rfl
    m_is_if_row := He.glo_ok X G (c.t.d.fact 18 (f := .glo "is_if_row") rfl)
    a_is_slot_row := He.fAd K ("is_slot_row", none)
    d_is_slot_row := d_is_slot_row
    F_is_slot_row := F_is_slot_row
    b_is_slot_row := F_is_slot_row.binds (ps := ["row", "scope"]) fun _ _ _ _ _ _ us hl => match us, hl with | [_, _], _ => rfl
    m_is_slot_row := He.glo_ok X G (c.t.d.fact 19 (f := .glo "is_slot_row") rfl)
    a_is_write_row := He.fAd K ("is_write_row", none)
    d_is_write_row := d_is_write_row
    F_is_write_row := F_is_write_row
    b_is_write_row := F_is_write_row.binds (ps := ["row", "scope"]) fun _ _ _ _ _ _ us hl => match us, hl with | [_, _], _ => rfl
    m_is_write_row := He.glo_ok X G (c.t.d.fact 20 (f := .glo "is_write_row") rfl)
    a_check_of := He.fAd K ("check_of", none)
    d_check_of := d_check_of
    F_check_of := F_check_of
    b_check_of := F_check_of.binds (ps := ["kind", "form"]) fun _ _ _ _ _ _ us hl => match us, hl with | [_, _], _ => rfl
    m_check_of := He.glo_ok X G (c.t.d.fact 21 (f := .glo "check_of") rfl)
    a_is_valid_row := He.fAd K ("is_valid_row", none)
    d_is_valid_row := d_is_valid_row
    F_is_valid_row := F_is_valid_row
    b_is_valid_row := F_is_valid_row.binds (ps := ["row", "scope", "depth"]) fun _ _ _ _ _ _ us hl => match us, hl with | [_, _, _], _ => rfl
    m_is_valid_row := He.glo_ok X G (c.t.d.fact 22 (f := .glo "is_valid_row") rfl)
    a_first_wrong_path := He.fAd K ("first_wrong_path", none)
    d_first_wrong_path := d_first_wrong_path
    F_first_wrong_path := F_first_wrong_path
    b_first_wrong_path := F_first_wrong_path.binds (ps := ["rows", "scope", "base", "depth"]) fun _ _ _ _ _ _ us hl => match us, hl with | [_, _, _, _], _ => rfl
    m_first_wrong_path := He.glo_ok X G (c.t.d.fact 23 (f := .glo "first_wrong_path") rfl)
    a_paths_of_rows := He.fAd K ("paths_of_rows", none)
    d_paths_of_rows := d_paths_of_rows
    F_paths_of_rows := F_paths_of_rows
    b_paths_of_rows := F_paths_of_rows.binds (ps := ["rows", "base"]) fun _ _ _ _ _ _ us hl => match us, hl with | [_, _], _ => rfl
    m_paths_of_rows := He.glo_ok X G (c.t.d.fact 24 (f := .glo "paths_of_rows") rfl)
    a_row_behind := He.fAd K ("row_behind", none)
    d_row_behind := d_row_behind
    F_row_behind := F_row_behind
    b_row_behind := F_row_behind.binds (ps := ["rows", "steps"]) fun _ _ _ _ _ _ us hl => match us, hl with | [_, _], _ => rfl
    m_row_behind := He.glo_ok X G (c.t.d.fact 25 (f := .glo "row_behind") rfl)
    a_rows_with := He.fAd K ("rows_with", none)
    d_rows_with := d_rows_with
    F_rows_with := F_rows_with
    b_rows_with := F_rows_with.binds (ps := ["rows", "steps", "row"]) fun _ _ _ _ _ _ us hl => match us, hl with | [_, _, _], _ => rfl
    m_rows_with := He.glo_ok X G (c.t.d.fact 26 (f := .glo "rows_with") rfl)
    a_slots_in := He.fAd K ("slots_in", none)
    d_slots_in := d_slots_in
    F_slots_in := F_slots_in
    b_slots_in := F_slots_in.binds (ps := ["rows"]) fun _ _ _ _ _ _ us hl => match us, hl with | [_], _ => rfl
    m_slots_in := He.glo_ok X G (c.t.d.fact 27 (f := .glo "slots_in") rfl)
    a_Program_init := He.fAd K ("Program", some "__init__")
    d_Program_init := d_Program_init
    F_Program_init := F_Program_init
    b_Program_init := F_Program_init.binds (ps := ["self", "words", "sources", "derived", "effects"]) fun _ _ _ _ _ _ us hl => match us, hl with | [_, _, _, _, _], _ => rfl
    a_Program_eq := He.fAd K ("Program", some "__eq__")
    d_Program_eq := d_Program_eq
    F_Program_eq := F_Program_eq
    b_Program_eq := F_Program_eq.binds (ps := ["self", "other"]) fun _ _ _ _ _ _ us hl => match us, hl with | [_, _], _ => rfl
    a_Program_cells := He.fAd K ("Program", some "cells")
    d_Program_cells := d_Program_cells
    F_Program_cells := F_Program_cells
    b_Program_cells := F_Program_cells.binds (ps := ["self"]) fun _ _ _ _ _ _ us hl => match us, hl with | [_], _ => rfl
    a_Program_derived_names := He.fAd K ("Program", some "derived_names")
    d_Program_derived_names := d_Program_derived_names
    F_Program_derived_names := F_Program_derived_names
    b_Program_derived_names := F_Program_derived_names.binds (ps := ["self"]) fun _ _ _ _ _ _ us hl => match us, hl with | [_], _ => rfl
    a_Program_effect_names := He.fAd K ("Program", some "effect_names")
    d_Program_effect_names := d_Program_effect_names
    F_Program_effect_names := F_Program_effect_names
    b_Program_effect_names := F_Program_effect_names.binds (ps := ["self"]) fun _ _ _ _ _ _ us hl => match us, hl with | [_], _ => rfl
    a_Program_body := He.fAd K ("Program", some "body")
    d_Program_body := d_Program_body
    F_Program_body := F_Program_body
    b_Program_body := F_Program_body.binds (ps := ["self", "name"]) fun _ _ _ _ _ _ us hl => match us, hl with | [_, _], _ => rfl
    a_Program_row_paths := He.fAd K ("Program", some "row_paths")
    d_Program_row_paths := d_Program_row_paths
    F_Program_row_paths := F_Program_row_paths
    b_Program_row_paths := F_Program_row_paths.binds (ps := ["self"]) fun _ _ _ _ _ _ us hl => match us, hl with | [_], _ => rfl
    a_Program_row_at := He.fAd K ("Program", some "row_at")
    d_Program_row_at := d_Program_row_at
    F_Program_row_at := F_Program_row_at
    b_Program_row_at := F_Program_row_at.binds (ps := ["self", "path"]) fun _ _ _ _ _ _ us hl => match us, hl with | [_, _], _ => rfl
    a_Program_with_row := He.fAd K ("Program", some "with_row")
    d_Program_with_row := d_Program_with_row
    F_Program_with_row := F_Program_with_row
    b_Program_with_row := F_Program_with_row.binds (ps := ["self", "path", "row"]) fun _ _ _ _ _ _ us hl => match us, hl with | [_, _, _], _ => rfl
    a_names_of := He.fAd K ("names_of", none)
    d_names_of := d_names_of
    F_names_of := F_names_of
    b_names_of := F_names_of.binds (ps := ["pairs"]) fun _ _ _ _ _ _ us hl => match us, hl with | [_], _ => rfl
    m_names_of := He.glo_ok X G (c.t.d.fact 28 (f := .glo "names_of") rfl)
    a_is_path_form := He.fAd K ("is_path_form", none)
    d_is_path_form := d_is_path_form
    F_is_path_form := F_is_path_form
    b_is_path_form := F_is_path_form.binds (ps := ["value"]) fun _ _ _ _ _ _ us hl => match us, hl with | [_], _ => rfl
    m_is_path_form := He.glo_ok X G (c.t.d.fact 29 (f := .glo "is_path_form") rfl)
    a_check_parts := He.fAd K ("check_parts", none)
    d_check_parts := d_check_parts
    F_check_parts := F_check_parts
    b_check_parts := F_check_parts.binds (ps := ["words", "sources", "derived", "effects"]) fun _ _ _ _ _ _ us hl => match us, hl with | [_, _, _, _], _ => rfl
    m_check_parts := He.glo_ok X G (c.t.d.fact 30 (f := .glo "check_parts") rfl)
    a_check_bodies := He.fAd K ("check_bodies", none)
    d_check_bodies := d_check_bodies
    F_check_bodies := F_check_bodies
    b_check_bodies := F_check_bodies.binds (ps := ["words", "sources", "derived", "effects"]) fun _ _ _ _ _ _ us hl => match us, hl with | [_, _, _, _], _ => rfl
    m_check_bodies := He.glo_ok X G (c.t.d.fact 31 (f := .glo "check_bodies") rfl)
    a_check_body := He.fAd K ("check_body", none)
    d_check_body := d_check_body
    F_check_body := F_check_body
    b_check_body := F_check_body.binds (ps := ["rows", "scope", "index"]) fun _ _ _ _ _ _ us hl => match us, hl with | [_, _, _], _ => rfl
    m_check_body := He.glo_ok X G (c.t.d.fact 32 (f := .glo "check_body") rfl)
    a_is_change := He.fAd K ("is_change", none)
    d_is_change := d_is_change
    F_is_change := F_is_change
    b_is_change := F_is_change.binds (ps := ["program", "value"]) fun _ _ _ _ _ _ us hl => match us, hl with | [_, _], _ => rfl
    m_is_change := He.glo_ok X G (c.t.d.fact 33 (f := .glo "is_change") rfl)
    a_check_changes := He.fAd K ("check_changes", none)
    d_check_changes := d_check_changes
    F_check_changes := F_check_changes
    b_check_changes := F_check_changes.binds (ps := ["program", "changes", "most"]) fun _ _ _ _ _ _ us hl => match us, hl with | [_, _, _], _ => rfl
    m_check_changes := He.glo_ok X G (c.t.d.fact 34 (f := .glo "check_changes") rfl)
    a_with_changes := He.fAd K ("with_changes", none)
    d_with_changes := d_with_changes
    F_with_changes := F_with_changes
    b_with_changes := F_with_changes.binds (ps := ["program", "changes"]) fun _ _ _ _ _ _ us hl => match us, hl with | [_, _], _ => rfl
    m_with_changes := He.glo_ok X G (c.t.d.fact 35 (f := .glo "with_changes") rfl)
    a_changed := He.fAd K ("changed", none)
    d_changed := d_changed
    F_changed := F_changed
    b_changed := F_changed.binds (ps := ["program", "changes"]) fun _ _ _ _ _ _ us hl => match us, hl with | [_, _], _ => rfl
    m_changed := He.glo_ok X G (c.t.d.fact 36 (f := .glo "changed") rfl)
    a_changed_bodies := He.fAd K ("changed_bodies", none)
    d_changed_bodies := d_changed_bodies
    F_changed_bodies := F_changed_bodies
    b_changed_bodies := F_changed_bodies.binds (ps := ["kind", "pairs", "changes"]) fun _ _ _ _ _ _ us hl => match us, hl with | [_, _, _], _ => rfl
    m_changed_bodies := He.glo_ok X G (c.t.d.fact 37 (f := .glo "changed_bodies") rfl)
    a_changed_rows := He.fAd K ("changed_rows", none)
    d_changed_rows := d_changed_rows
    F_changed_rows := F_changed_rows
    b_changed_rows := F_changed_rows.binds (ps := ["rows", "changes"]) fun _ _ _ _ _ _ us hl => match us, hl with | [_, _], _ => rfl
    m_changed_rows := He.glo_ok X G (c.t.d.fact 38 (f := .glo "changed_rows") rfl)
    a__law_state := He.fAd K ("_law_state", none)
    d__law_state := d_law_state
    F__law_state := F_law_state
    b__law_state := F_law_state.binds (ps := ["_law_script"]) fun _ _ _ _ _ _ us hl => match us, hl with | [_], _ => rfl
    m__law_state := He.glo_ok X G (c.t.d.fact 39 (f := .glo "_law_state") rfl)
    a__law_draw := He.fAd K ("_law_draw", none)
    d__law_draw := d_law_draw
    F__law_draw := F_law_draw
    b__law_draw := F_law_draw.binds (ps := ["_law_state_here", "_law_many_here"]) fun _ _ _ _ _ _ us hl => match us, hl with | [_, _], _ => rfl
    m__law_draw := He.glo_ok X G (c.t.d.fact 40 (f := .glo "_law_draw") rfl)
    a__law_names := He.fAd K ("_law_names", none)
    d__law_names := d_law_names
    F__law_names := F_law_names
    b__law_names := F_law_names.binds (ps := ["_law_state_here", "_law_many_here"]) fun _ _ _ _ _ _ us hl => match us, hl with | [_, _], _ => rfl
    m__law_names := He.glo_ok X G (c.t.d.fact 41 (f := .glo "_law_names") rfl)
    a__law_many := He.fAd K ("_law_many", none)
    d__law_many := d_law_many
    F__law_many := F_law_many
    b__law_many := F_law_many.binds (ps := ["_law_rows_here"]) fun _ _ _ _ _ _ us hl => match us, hl with | [_], _ => rfl
    m__law_many := He.glo_ok X G (c.t.d.fact 42 (f := .glo "_law_many") rfl)
    a__law_row := He.fAd K ("_law_row", none)
    d__law_row := d_law_row
    F__law_row := F_law_row
    b__law_row := F_law_row.binds (ps := ["_law_state_here", "_law_shape"]) fun _ _ _ _ _ _ us hl => match us, hl with | [_, _], _ => rfl
    m__law_row := He.glo_ok X G (c.t.d.fact 43 (f := .glo "_law_row") rfl)
    a__law_rows := He.fAd K ("_law_rows", none)
    d__law_rows := d_law_rows
    F__law_rows := F_law_rows
    b__law_rows := F_law_rows.binds (ps := ["_law_state_here", "_law_shape", "_law_depth", "_law_room"]) fun _ _ _ _ _ _ us hl => match us, hl with | [_, _, _, _], _ => rfl
    m__law_rows := He.glo_ok X G (c.t.d.fact 44 (f := .glo "_law_rows") rfl)
    a__law_parts := He.fAd K ("_law_parts", none)
    d__law_parts := d_law_parts
    F__law_parts := F_law_parts
    b__law_parts := F_law_parts.binds (ps := ["_law_state_here", "_law_sizes", "_law_peeks", "_law_writes"]) fun _ _ _ _ _ _ us hl => match us, hl with | [_, _, _, _], _ => rfl
    m__law_parts := He.glo_ok X G (c.t.d.fact 45 (f := .glo "_law_parts") rfl)
    a__law_program := He.fAd K ("_law_program", none)
    d__law_program := d_law_program
    F__law_program := F_law_program
    b__law_program := F_law_program.binds (ps := ["_law_parts_here"]) fun _ _ _ _ _ _ us hl => match us, hl with | [_], _ => rfl
    m__law_program := He.glo_ok X G (c.t.d.fact 46 (f := .glo "_law_program") rfl)
    a__law_chosen := He.fAd K ("_law_chosen", none)
    d__law_chosen := d_law_chosen
    F__law_chosen := F_law_chosen
    b__law_chosen := F_law_chosen.binds (ps := ["_law_state_here", "_law_rows_here", "_law_many_here"]) fun _ _ _ _ _ _ us hl => match us, hl with | [_, _, _], _ => rfl
    m__law_chosen := He.glo_ok X G (c.t.d.fact 47 (f := .glo "_law_chosen") rfl)
    a__law_paths := He.fAd K ("_law_paths", none)
    d__law_paths := d_law_paths
    F__law_paths := F_law_paths
    b__law_paths := F_law_paths.binds (ps := ["_law_rows_here", "_law_path"]) fun _ _ _ _ _ _ us hl => match us, hl with | [_, _], _ => rfl
    m__law_paths := He.glo_ok X G (c.t.d.fact 48 (f := .glo "_law_paths") rfl)
    a__law_all_paths := He.fAd K ("_law_all_paths", none)
    d__law_all_paths := d_law_all_paths
    F__law_all_paths := F_law_all_paths
    b__law_all_paths := F_law_all_paths.binds (ps := ["_law_parts_here"]) fun _ _ _ _ _ _ us hl => match us, hl with | [_], _ => rfl
    m__law_all_paths := He.glo_ok X G (c.t.d.fact 49 (f := .glo "_law_all_paths") rfl)
    a__law_changes := He.fAd K ("_law_changes", none)
    d__law_changes := d_law_changes
    F__law_changes := F_law_changes
    b__law_changes := F_law_changes.binds (ps := ["_law_parts_here"]) fun _ _ _ _ _ _ us hl => match us, hl with | [_], _ => rfl
    m__law_changes := He.glo_ok X G (c.t.d.fact 50 (f := .glo "_law_changes") rfl)
    a__law_starts := He.fAd K ("_law_starts", none)
    d__law_starts := d_law_starts
    F__law_starts := F_law_starts
    b__law_starts := F_law_starts.binds (ps := ["_law_parts_here"]) fun _ _ _ _ _ _ us hl => match us, hl with | [_], _ => rfl
    m__law_starts := He.glo_ok X G (c.t.d.fact 51 (f := .glo "_law_starts") rfl)
    a__law_early_cells := He.fAd K ("_law_early_cells", none)
    d__law_early_cells := d_law_early_cells
    F__law_early_cells := F_law_early_cells
    b__law_early_cells := F_law_early_cells.binds (ps := ["_law_parts_here", "_law_chosen_here", "_law_kind", "_law_at"]) fun _ _ _ _ _ _ us hl => match us, hl with | [_, _, _, _], _ => rfl
    m__law_early_cells := He.glo_ok X G (c.t.d.fact 52 (f := .glo "_law_early_cells") rfl)
    a__law_same_run := He.fAd K ("_law_same_run", none)
    d__law_same_run := d_law_same_run
    F__law_same_run := F_law_same_run
    b__law_same_run := F_law_same_run.binds (ps := ["_law_one", "_law_other", "_law_cells"]) fun _ _ _ _ _ _ us hl => match us, hl with | [_, _, _], _ => rfl
    m__law_same_run := He.glo_ok X G (c.t.d.fact 53 (f := .glo "_law_same_run") rfl)
    a_law := He.fAd K ("law", none)
    d_law := d_law
    F_law := F_law
    b_law := F_law.binds (ps := ["_law_script"]) fun _ _ _ _ _ _ us hl => match us, hl with | [_], _ => rfl
    m_law := He.glo_ok X G (c.t.d.fact 54 (f := .glo "law") rfl)
    c_ToldError := He.ga K "ToldError"
    m_ToldError := He.glo_ok X G (c.t.d.fact 81 (f := .glo "ToldError") rfl)
    c_InvalidProgram := He.ga K "InvalidProgram"
    m_InvalidProgram := He.glo_ok X G (c.t.d.fact 82 (f := .glo "InvalidProgram") rfl)
    c_InvalidStart := He.ga K "InvalidStart"
    m_InvalidStart := He.glo_ok X G (c.t.d.fact 83 (f := .glo "InvalidStart") rfl)
    c_InvalidPath := He.ga K "InvalidPath"
    m_InvalidPath := He.glo_ok X G (c.t.d.fact 84 (f := .glo "InvalidPath") rfl)
    c_UnknownCell := He.ga K "UnknownCell"
    m_UnknownCell := He.glo_ok X G (c.t.d.fact 85 (f := .glo "UnknownCell") rfl)
    c_InvalidChange := He.ga K "InvalidChange"
    m_InvalidChange := He.glo_ok X G (c.t.d.fact 86 (f := .glo "InvalidChange") rfl)
    c_Record := He.ga K "Record"
    m_Record := He.glo_ok X G (c.t.d.fact 87 (f := .glo "Record") rfl)
    c_TrueRun := He.ga K "TrueRun"
    m_TrueRun := He.glo_ok X G (c.t.d.fact 88 (f := .glo "TrueRun") rfl)
    l_TrueRun := He.cls_ok (c.t.d.fact 89 (f := .cls "TrueRun") rfl)
    k_TrueRun := He.mkr_ok (c.t.d.fact 90 (f := .mkr "TrueRun") rfl)
    n_TrueRun_default := He.noat_ok (c.t.d.fact 91 (f := .noat "TrueRun" "default") rfl)
    n_TrueRun_known := He.noat_ok (c.t.d.fact 92 (f := .noat "TrueRun" "known") rfl)
    n_TrueRun_slots := He.noat_ok (c.t.d.fact 93 (f := .noat "TrueRun" "slots") rfl)
    n_TrueRun_noted := He.noat_ok (c.t.d.fact 94 (f := .noat "TrueRun" "noted") rfl)
    n_TrueRun_peeked := He.noat_ok (c.t.d.fact 95 (f := .noat "TrueRun" "peeked") rfl)
    n_TrueRun_said := He.noat_ok (c.t.d.fact 96 (f := .noat "TrueRun" "said") rfl)
    n_TrueRun_written := He.noat_ok (c.t.d.fact 97 (f := .noat "TrueRun" "written") rfl)
    n_TrueRun_given := He.noat_ok (c.t.d.fact 98 (f := .noat "TrueRun" "given") rfl)
    t_TrueRun_word_in := He.meth_ok (c.t.d.fact 99 (f := .meth "TrueRun" "word_in") rfl)
    c_Scope := He.ga K "Scope"
    m_Scope := He.glo_ok X G (c.t.d.fact 100 (f := .glo "Scope") rfl)
    l_Scope := He.cls_ok (c.t.d.fact 101 (f := .cls "Scope") rfl)
    k_Scope := He.mkr_ok (c.t.d.fact 102 (f := .mkr "Scope") rfl)
    n_Scope_kind := He.noat_ok (c.t.d.fact 103 (f := .noat "Scope" "kind") rfl)
    n_Scope_words := He.noat_ok (c.t.d.fact 104 (f := .noat "Scope" "words") rfl)
    n_Scope_sources := He.noat_ok (c.t.d.fact 105 (f := .noat "Scope" "sources") rfl)
    n_Scope_readable := He.noat_ok (c.t.d.fact 106 (f := .noat "Scope" "readable") rfl)
    c_Program := He.ga K "Program"
    m_Program := He.glo_ok X G (c.t.d.fact 107 (f := .glo "Program") rfl)
    l_Program := He.cls_ok (c.t.d.fact 108 (f := .cls "Program") rfl)
    k_Program := He.mkr_ok (c.t.d.fact 109 (f := .mkr "Program") rfl)
    n_Program_words := He.noat_ok (c.t.d.fact 110 (f := .noat "Program" "words") rfl)
    n_Program_sources := He.noat_ok (c.t.d.fact 111 (f := .noat "Program" "sources") rfl)
    n_Program_derived := He.noat_ok (c.t.d.fact 112 (f := .noat "Program" "derived") rfl)
    n_Program_effects := He.noat_ok (c.t.d.fact 113 (f := .noat "Program" "effects") rfl)
    n_Program__derived_names := He.noat_ok (c.t.d.fact 114 (f := .noat "Program" "_derived_names") rfl)
    n_Program__effect_names := He.noat_ok (c.t.d.fact 115 (f := .noat "Program" "_effect_names") rfl)
    t_Program_cells := He.meth_ok (c.t.d.fact 116 (f := .meth "Program" "cells") rfl)
    t_Program_derived_names := He.meth_ok (c.t.d.fact 117 (f := .meth "Program" "derived_names") rfl)
    t_Program_effect_names := He.meth_ok (c.t.d.fact 118 (f := .meth "Program" "effect_names") rfl)
    t_Program_body := He.meth_ok (c.t.d.fact 119 (f := .meth "Program" "body") rfl)
    t_Program_row_paths := He.meth_ok (c.t.d.fact 120 (f := .meth "Program" "row_paths") rfl)
    t_Program_row_at := He.meth_ok (c.t.d.fact 121 (f := .meth "Program" "row_at") rfl)
    t_Program_with_row := He.meth_ok (c.t.d.fact 122 (f := .meth "Program" "with_row") rfl)
    F_TrueRun_init := F_TrueRun_init
    b_TrueRun_init := F_TrueRun_init.binds (ps := ["self", "default", "known"]) fun _ _ _ _ _ _ _ us hl => match us, hl with | [_, _, _], _ => rfl
    t_TrueRun_parts := He.meth_ok (c.t.d.fact 123 (f := .meth "TrueRun" "parts") rfl)
    a_SLOT_PLACES := He.ga K "SLOT_PLACES"
    c_SLOT_PLACES := He.glo_ok X G (c.t.d.fact 124 (f := .glo "SLOT_PLACES") rfl)
    w_SLOT_PLACES := ⟨es_SLOT_PLACES, n_SLOT_PLACES, L_SLOT_PLACES, Y_SLOT_PLACES, S_SLOT_PLACES⟩
    w_SLOT_PLACES_read := kdct_of L_SLOT_PLACES Y_SLOT_PLACES (V_SLOT_PLACES ("read", He.Dv.int 2) (by simp))
    w_SLOT_PLACES_peek := kdct_of L_SLOT_PLACES Y_SLOT_PLACES (V_SLOT_PLACES ("peek", He.Dv.int 2) (by simp))
    w_SLOT_PLACES_put := kdct_of L_SLOT_PLACES Y_SLOT_PLACES (V_SLOT_PLACES ("put", He.Dv.int 1) (by simp))
    w_SLOT_PLACES_if := kdct_of L_SLOT_PLACES Y_SLOT_PLACES (V_SLOT_PLACES ("if", He.Dv.int 1) (by simp))
    w_SLOT_PLACES_give := kdct_of L_SLOT_PLACES Y_SLOT_PLACES (V_SLOT_PLACES ("give", He.Dv.int 1) (by simp))
    w_SLOT_PLACES_write := kdct_of L_SLOT_PLACES Y_SLOT_PLACES (V_SLOT_PLACES ("write", He.Dv.int 2) (by simp))
    w_SLOT_PLACES_say := kdct_of L_SLOT_PLACES Y_SLOT_PLACES (V_SLOT_PLACES ("say", He.Dv.int 1) (by simp))
    a_DERIVED_FORMS := He.ga K "DERIVED_FORMS"
    c_DERIVED_FORMS := He.glo_ok X G (c.t.d.fact 125 (f := .glo "DERIVED_FORMS") rfl)
    w_DERIVED_FORMS := ⟨es_DERIVED_FORMS, n_DERIVED_FORMS, L_DERIVED_FORMS, Y_DERIVED_FORMS, S_DERIVED_FORMS⟩
    w_DERIVED_FORMS_read := kdct_of L_DERIVED_FORMS Y_DERIVED_FORMS (V_DERIVED_FORMS ("read", He.Dv.glo "is_read_row") (by simp))
    w_DERIVED_FORMS_put := kdct_of L_DERIVED_FORMS Y_DERIVED_FORMS (V_DERIVED_FORMS ("put", He.Dv.glo "is_put_row") (by simp))
    w_DERIVED_FORMS_if := kdct_of L_DERIVED_FORMS Y_DERIVED_FORMS (V_DERIVED_FORMS ("if", He.Dv.glo "is_if_row") (by simp))
    w_DERIVED_FORMS_give := kdct_of L_DERIVED_FORMS Y_DERIVED_FORMS (V_DERIVED_FORMS ("give", He.Dv.glo "is_slot_row") (by simp))
    a_EFFECT_FORMS := He.ga K "EFFECT_FORMS"
    c_EFFECT_FORMS := He.glo_ok X G (c.t.d.fact 126 (f := .glo "EFFECT_FORMS") rfl)
    w_EFFECT_FORMS := ⟨es_EFFECT_FORMS, n_EFFECT_FORMS, L_EFFECT_FORMS, Y_EFFECT_FORMS, S_EFFECT_FORMS⟩
    w_EFFECT_FORMS_read := kdct_of L_EFFECT_FORMS Y_EFFECT_FORMS (V_EFFECT_FORMS ("read", He.Dv.glo "is_read_row") (by simp))
    w_EFFECT_FORMS_peek := kdct_of L_EFFECT_FORMS Y_EFFECT_FORMS (V_EFFECT_FORMS ("peek", He.Dv.glo "is_read_row") (by simp))
    w_EFFECT_FORMS_put := kdct_of L_EFFECT_FORMS Y_EFFECT_FORMS (V_EFFECT_FORMS ("put", He.Dv.glo "is_put_row") (by simp))
    w_EFFECT_FORMS_if := kdct_of L_EFFECT_FORMS Y_EFFECT_FORMS (V_EFFECT_FORMS ("if", He.Dv.glo "is_if_row") (by simp))
    w_EFFECT_FORMS_write := kdct_of L_EFFECT_FORMS Y_EFFECT_FORMS (V_EFFECT_FORMS ("write", He.Dv.glo "is_write_row") (by simp))
    w_EFFECT_FORMS_say := kdct_of L_EFFECT_FORMS Y_EFFECT_FORMS (V_EFFECT_FORMS ("say", He.Dv.glo "is_slot_row") (by simp))
    a_ACTIONS := He.ga K "ACTIONS"
    c_ACTIONS := He.glo_ok X G (c.t.d.fact 127 (f := .glo "ACTIONS") rfl)
    w_ACTIONS := ⟨es_ACTIONS, n_ACTIONS, L_ACTIONS, Y_ACTIONS, S_ACTIONS⟩
    w_ACTIONS_read := kdct_of L_ACTIONS Y_ACTIONS (V_ACTIONS ("read", He.Dv.glo "do_read") (by simp))
    w_ACTIONS_peek := kdct_of L_ACTIONS Y_ACTIONS (V_ACTIONS ("peek", He.Dv.glo "do_peek") (by simp))
    w_ACTIONS_put := kdct_of L_ACTIONS Y_ACTIONS (V_ACTIONS ("put", He.Dv.glo "do_put") (by simp))
    w_ACTIONS_write := kdct_of L_ACTIONS Y_ACTIONS (V_ACTIONS ("write", He.Dv.glo "do_write") (by simp))
    w_ACTIONS_say := kdct_of L_ACTIONS Y_ACTIONS (V_ACTIONS ("say", He.Dv.glo "do_say") (by simp))
  }, fun s u => law_binds (ps := ["_law_script"]) F_law (fun _ _ _ _ _ _ us hl => match us, hl with | [_], _ => rfl) s [u] rfl⟩
abbrev R : PySem.W.OpenRow := PySem.W.OpenLaw.row PySem.Challenge.rw_toldonward_k80_whole_changes_keep_the_tr
def as_ : List Addr := [3, 2, 55, 54, 75, 74, 94, 93, 113, 112, 132, 131, 151, 150, 177, 176, 207, 206, 308, 307, 471, 470, 291, 348, 349, 245, 185, 28, 27, 33, 32, 38, 37, 45, 44, 72, 71, 91, 90, 110, 109, 129, 128, 148, 147, 167, 166, 174, 173, 204, 203, 216, 215, 223, 222, 230, 229, 237, 236, 244, 243, 252, 251, 259, 258, 264, 263, 271, 270, 278, 277, 283, 282, 290, 289, 305, 304, 319, 318, 326, 325, 333, 332, 340, 339, 347, 346, 356, 355, 363, 362, 370, 369, 377, 376, 384, 383, 391, 390, 398, 397, 412, 411, 419, 418, 426, 425, 433, 432, 440, 439, 447, 446, 454, 453, 461, 460, 468, 467, 480, 479, 485, 484, 492, 491, 499, 498, 506, 505, 513, 512, 520, 519, 527, 526, 534, 533, 539, 538, 544, 543, 551, 550, 558, 557, 565, 564, 572, 571, 579, 578, 586, 585, 593, 592, 600, 599, 607, 606, 614, 613, 621, 620, 628, 627, 635, 634, 642, 641, 647, 646, 654, 653, 197, 196]
abbrev hk : PySem.W.Hook := hookV as_ fa fn ts us ex
def ob (s : PySem.W.SharedT) : AlU := obsV as_ fa fn ts us ex (HandSHeadRun.getT s)
theorem ob_eq (s : PySem.W.SharedT) : ob s = hk.obs s.abs := obsV_eq (HandSHeadRun.getT_eq s)
def loose0 : List Str := ["_wall", "LONGEST_NAME", "is_integer", "is_name", "are_names", "are_named_pairs", "ToldError", "InvalidProgram", "InvalidStart", "InvalidPath", "UnknownCell", "InvalidChange", "Record", "TrueRun", "do_read", "do_peek", "do_put", "do_write", "do_say", "ACTIONS", "do_rows", "run_truly", "is_start", "check_start", "known_words", "true_words", "true_run", "MOST_ROWS", "DEEPEST_IF", "SLOT_PLACES"]
def loose1 : List Str := ["Scope", "is_read_row", "is_put_row", "is_if_row", "is_slot_row", "is_write_row", "DERIVED_FORMS", "EFFECT_FORMS", "check_of", "is_valid_row", "first_wrong_path", "paths_of_rows", "row_behind", "rows_with", "slots_in", "LEAST_WORDS", "MOST_WORDS", "LEAST_SOURCES", "MOST_SOURCES", "MOST_DERIVED", "MOST_EFFECTS", "Program", "names_of", "is_path_form", "check_parts", "check_bodies", "check_body", "LETTERS", "is_change", "check_changes"]
def loose2 : List Str := ["with_changes", "changed", "changed_bodies", "changed_rows", "_law_state", "_law_draw", "_law_names", "_law_many", "_law_row", "_law_rows", "_law_parts", "_law_program", "_law_chosen", "_law_paths", "_law_all_paths", "_law_changes", "_law_starts", "_law_early_cells", "_law_same_run"]
def loose : List Str := loose0 ++ (loose1 ++ (loose2))
end K80
namespace K80
open PySem PySem.Spec PyProof.Rows L2 Td
abbrev RunOk (w : World) : Prop := HandSHeadRun.RunEq R (PySem.W.view R.prog [87]) hk ob 8000 loose w
theorem run_f (w : World) : RunOk (w.withFollow "special-get-raises" false) := by
  intro os
  kernel_rfl
theorem run_t (w : World) : RunOk (w.withFollow "special-get-raises" true) := by
  intro os
  kernel_rfl
theorem run (w : World) : HandSHeadRun.RunEq R (PySem.W.view R.prog [87]) hk ob 8000 loose w := PySem.W.byRow2 "special-get-raises" (P := RunOk) run_f run_t w
end K80
open PySem PySem.W PySem.Calls PyProof.Rows
set_option maxRecDepth 100000 in
set_option maxHeartbeats 0 in
theorem PySem.Challenge.cw_toldonward_k80_whole_changes_keep_the_tr_holds : PySem.Challenge.rw_toldonward_k80_whole_changes_keep_the_tr.Holds := by
  w_on; o_law
  refine HandSHeadRun.head_any (r := OpenLaw.row PySem.Challenge.rw_toldonward_k80_whole_changes_keep_the_tr) (q := view (OpenLaw.row PySem.Challenge.rw_toldonward_k80_whole_changes_keep_the_tr).prog [87]) (H := K80.hk) (ob := K80.ob) (M := 8000) (loose := K80.loose) (d := HandSHeadRun.topDef (OpenLaw.row PySem.Challenge.rw_toldonward_k80_whole_changes_keep_the_tr).prog 87) (kwd := []) K80.ob_eq
    (by kernel_rfl) (fun s => by kernel_rfl) K80.run (by kernel_rfl) (by kernel_rfl) (by kernel_rfl) (by rfl) (by first | assumption | decide +kernel) (by decide +kernel) ⟨rfl, rfl, rfl, rfl, rfl, by decide +kernel⟩ ?hw ?hc
  case hw => w_witness2
  case hc =>
    refine L2.walk_ofE (l := PySem.Challenge.rw_toldonward_k80_whole_changes_keep_the_tr) (n := 63) (k := 14) (x := "_law_script") (CX := L2.CX0) rfl (by decide) (by kernel_rfl) ⟨rfl, by decide, by decide⟩ ?F (fun _ _ _ _ z => z)
    intro w mg fa h Y G hmg0
    obtain ⟨K, KX, c⟩ := Y
    have hmg : mg ("law" : PySem.Str) = some (.ref fa) := by
      have e : (HandSHeadRun.topDef (OpenLaw.row PySem.Challenge.rw_toldonward_k80_whole_changes_keep_the_tr).prog 87).name = ("law" : PySem.Str) := by kernel_rfl
      rw [← e]
      exact hmg0
    obtain ⟨T, hb⟩ := K80.tops KX G c
    have e := hmg.symm.trans T.m_law
    cases e
    exact ⟨K, T.d_law, K80.spLaw K, KX, hb, fun H a ns hl _ hS => ⟨a, ns, rfl, hS, hl, fun _ => rfl⟩, fun base _ _ => K80.law_of T⟩
