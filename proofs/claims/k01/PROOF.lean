import PyProof.Rows.All
import Wide.All
import OpenK.AllK
import Wide.FinOn
import HandS.ForMost
import HandS.ForExc
import HandS.SetKeys
import HandS.Strs
import HandS.Set
import HandS.More
import HandS.Wide
import HandS.IsInst
import HandS.ExcInit
import HandS.CallLocal
import HandS.TupAny
import HandS.Codes
import KE.GoesEnum
import HandS.WrittenGet
import KE.KDictZip
import KE.GoesMore
import HandS.Zip
import HandS.ListItems
import KE.KItemsList
import HandS.Conv
import HandS.DeepEq
import PyProof.EqLayable
import HandS.Nested
import HandS.HeadWalk
import KE.KSuper
import HandS.ExcField
import HandS.TryMany
import HandS.OwnEq
import KE.KExcIs
import HandS.ExcIs
import HandS.ExcOwn
import HandS.HeadHook4
import HandS.HeadEnd
import HandS.Head2
import PyProof.StrLawsIn
import PySem.Challenge.RW_toldonward_k01_program_keeps_its_parts
set_option Elab.async false
set_option maxRecDepth 100000
set_option maxHeartbeats 0
set_option linter.all false
/-! Own rules beside the hand layer: for any program. -/
namespace TdSet
open PySem PySem.Spec PyProof.Rows SS
/-- how many different ones stand among the first i -/
def dcnt (xs : List Str) : Nat → Nat
  | 0 => 0
  | i + 1 => if (xs.take i).any (· == xs.getD i Str.empty) = true then dcnt xs i else dcnt xs i + 1
theorem dcnt_le (xs : List Str) : ∀ i, dcnt xs i ≤ i
  | 0 => Nat.le_refl _
  | i + 1 => by
    have := dcnt_le xs i
    unfold dcnt
    split <;> omega
theorem dcnt_full {xs : List Str} : ∀ {i : Nat}, i ≤ xs.length → dcnt xs i = i → (xs.take i).Nodup
  | 0, _, _ => by simp
  | i + 1, hi, h => by
    have hl := dcnt_le xs i
    unfold dcnt at h
    split at h
    · omega
    · rename_i hn
      have ih := dcnt_full (xs := xs) (i := i) (by omega) (by omega)
      have hx : i < xs.length := by omega
      rw [List.take_succ_eq_append_getElem hx]
      refine List.nodup_append.mpr ⟨ih, by simp, ?_⟩
      intro a ha b hb hab
      have e : b = xs[i] := by simpa using hb
      apply hn
      refine List.any_eq_true.mpr ⟨a, ha, ?_⟩
      rw [hab, e, List.getD_eq_getElem?_getD, List.getElem?_eq_getElem hx]
      simp
theorem dcnt_nodup {xs : List Str} : ∀ {i : Nat}, i ≤ xs.length → (xs.take i).Nodup → dcnt xs i = i
  | 0, _, _ => rfl
  | i + 1, hi, h => by
    have hx : i < xs.length := by omega
    rw [List.take_succ_eq_append_getElem hx] at h
    obtain ⟨h1, _, h3⟩ := List.nodup_append.mp h
    have ih := dcnt_nodup (xs := xs) (i := i) (by omega) h1
    unfold dcnt
    rw [if_neg, ih]
    intro hh
    obtain ⟨a, ha, hb⟩ := List.any_eq_true.mp hh
    rw [List.getD_eq_getElem?_getD, List.getElem?_eq_getElem hx] at hb
    exact h3 a ha xs[i] (by simp) (by simpa using hb)
/-- the set at S has met the first i texts -/
def Met (prog : Program) (w : World) (S : Addr) (xs : List Str) (i : Nat) (h : Heap) : Prop := h.SetOf (PySem.strKind prog w) S (fun z => (xs.take i).any (· == z)) (dcnt xs i)
theorem Met.move {prog : Program} {w : World} {S : Addr} {xs : List Str} {i : Nat} {h h' : Heap} (m : Met prog w S xs i h) (k : ∀ o, h.get? S = some o → h'.get? S = some o) : Met prog w S xs i h' := by
  obtain ⟨o, es, ep, tb, e, r⟩ := m
  exact ⟨o, es, ep, tb, k o e, r⟩
/-- one text more -/
theorem Met.more {prog : Program} {w : World} {S : Addr} {xs : List Str} {i : Nat} {h : Heap} {z : Str} (hz : xs[i]? = some z)
    (m : h.SetOf (PySem.strKind prog w) S (fun y => (xs.take i).any (· == y) || decide (y = z)) (if (xs.take i).any (· == z) = true then dcnt xs i else dcnt xs i + 1)) : Met prog w S xs (i + 1) h := by
  have e : xs.take (i + 1) = xs.take i ++ [z] := by rw [List.take_add_one, hz]; rfl
  refine SetOf_congr m (fun y => ?_) ?_
  · rw [e, List.any_append]
    congr 1
    by_cases q : y = z
    · rw [q]; simp
    · have : ¬ z = y := fun h => q h.symm
      simp [q, this]
  · show _ = (if (xs.take i).any (· == xs.getD i Str.empty) = true then dcnt xs i else dcnt xs i + 1)
    rw [List.getD_eq_getElem?_getD, hz]
    rfl
section
variable {prog : Program} {w : World} {A : Around} {R : Result → Shared → Prop} {I S : Addr} {fp wr : List Addr} {G : Array GenState → Array GenState → Prop} {i : Nat} {P : Nat → Value → Prop} {St : Nat → Shared → Prop} {xs : List Str} {s : Shared}
/-- an iterator whose item i is the text i of xs -/
structure Turns (prog : Program) (w : World) (A : Around) (I : Addr) (fp wr : List Addr) (G : Array GenState → Array GenState → Prop) (xs : List Str) (P : Nat → Value → Prop) (St : Nat → Shared → Prop) : Prop where
  walks : WalksS prog w A I fp wr G xs.length P St
  texts : ∀ i v, P i v → ∃ z t, xs[i]? = some z ∧ v = .str z t
/-- the loop's code, one round of it -/
theorem round_of (h : wpAny (model prog w) A.in1 (Builtin.«set.update.loop» ⟨[.ref S, .ref I], []⟩) (fun fin s' => match fin with | .done f => R (.ok f) s' | .again c => c.quiet = true ∧ codeAny (model prog w) A c R s') (fun e s' => R (.error e) s') s) :
    codeAny (model prog w) A (.builtin "set.update.loop" ⟨[.ref S, .ref I], []⟩) R s :=
  codeAny_builtin PyProof.Rows.F.entry_set_update_loop (by rw [Around.under_plainId PyProof.Rows.F.plain_set_update_loop _]; exact h)
theorem last_round (W : Turns prog w A.in1 I fp wr G xs P St) (ns : S ∉ wr) (hst : St xs.length s) (hS : Met prog w S xs xs.length s.heap)
    (fin : ∀ s', Moved wr G s s' → Met prog w S xs xs.length s'.heap → R (.ok (.ret .none)) s') : codeAny (model prog w) A (.builtin "set.update.loop" ⟨[.ref S, .ref I], []⟩) R s :=
  round_of (wpAny_bind (W.walks.done s _ _ hst fun s' hm => wpAny_pure (fin s' hm (hS.move fun o e => hm.heap S o ns e))))
theorem next_round (W : Turns prog w A.in1 I fp wr G xs P St) (hf : S ∉ fp) (hn : xs.length < 4000) (hi : i < xs.length) (hst : St i s) (hS : Met prog w S xs i s.heap)
    (go : ∀ s', St (i + 1) s' → Met prog w S xs (i + 1) s'.heap → Moved (S :: wr) G s s' → codeAny (model prog w) A (.builtin "set.update.loop" ⟨[.ref S, .ref I], []⟩) R s') :
    codeAny (model prog w) A (.builtin "set.update.loop" ⟨[.ref S, .ref I], []⟩) R s := by
  refine round_of (wpAny_bind (W.walks.item i s _ _ hi hst fun v s1 hv st1 m1 => ?_))
  obtain ⟨z, t, hz, rfl⟩ := W.texts i v hv
  have hd := dcnt_le xs i
  have S1 := hS.move fun o e => m1.heap S o (fun h => hf (W.walks.sub _ h)) e
  refine wpAny_bind (wpAny_holding (wpAny_holding (wpAny_bind ((PySem.strKind prog w).pyHash (k := z) (strKind_is _ _ _ _) (wpAny_setAddHashed_of (knd := PySem.strKind prog w) (s := { s1 with toks := s1.toks + 1 }) (strKind_is _ _ _ _) rfl S1 (by unfold scanBound; omega) fun h2 sb S2 => ?_)))))
  have keep : ∀ b o, b ≠ S → s1.heap.get? b = some o → h2.get? b = some o := fun b o nb e => by rw [sb.2 b nb]; exact e
  refine wpAny_pure ⟨plainId_quiet PyProof.Rows.F.plain_set_update_loop _, go _ (W.walks.frame _ s1 _ _ st1 (Nat.le_succ _) fun b hb o e => keep b o (fun q => hf (q ▸ hb)) e) (Met.more hz S2) ?_⟩
  exact (m1.mono fun b hb => List.mem_cons_of_mem _ hb).then_heap (Nat.le_succ _) fun b o hb e => keep b o (fun q => hb (q ▸ List.mem_cons_self)) e
theorem rounds (W : Turns prog w A.in1 I fp wr G xs P St) (hf : S ∉ fp) (hn : xs.length < 4000) : ∀ (left i : Nat) (s : Shared), i + left = xs.length → St i s → Met prog w S xs i s.heap →
    (∀ s', Moved (S :: wr) G s s' → Met prog w S xs xs.length s'.heap → R (.ok (.ret .none)) s') → codeAny (model prog w) A (.builtin "set.update.loop" ⟨[.ref S, .ref I], []⟩) R s
  | 0, i, s, e, st, m, fin => by
    have e : i = xs.length := e
    subst e
    exact last_round W (fun h => hf (W.walks.sub _ h)) st m fun s' mv m' => fin s' (mv.mono fun b hb => List.mem_cons_of_mem _ hb) m'
  | left + 1, i, s, e, st, m, fin =>
    next_round W hf hn (by omega) st m fun s1 st1 m1 mv1 => rounds W hf hn left (i + 1) s1 (by omega) st1 m1 fun s2 mv2 m2 => fin s2 (Moved.trans W.walks.gtrans mv1 mv2) m2
end
section
variable {prog : Program} {w : World} {A : Around} {E : Value → Shared → Prop} {s : Shared}
/-- the new set's own beginning: it takes the tuple's texts -/
theorem init_texts {R : Result → Shared → Prop} {S l : Addr} {o : Obj} {items : Array Value} {xs : List Str} {led : Bool} (hh : A.handled = none) (hS : s.heap.get? S = some { cls := .type "set", dict := none, data := .set #[] 0 (.fresh 0 0 led) })
    (ho : s.heap.get? l = some o) (hc : o.cls = .type "tuple") (hd : ∃ nl, o.data = .seq items nl) (hne : l ≠ S) (hi : PyProof.Rows.StrsAre items.toList xs) (hn : xs.length < 4000)
    (fin : ∀ (h' : Heap) (tk : Nat), Met prog w S xs xs.length h' → (∀ b u, b ≠ S → s.heap.get? b = some u → h'.get? b = some u) → R (.ok (.ret .none)) { s with heap := h', toks := tk }) :
    wpAny (model prog w) A.in1 (Builtin.«set.__init__» ⟨[.ref S, .ref l], []⟩) (fun fin s' => match fin with | .done f => R (.ok f) s' | .again c => c.quiet = true ∧ codeAny (model prog w) A c R s') (fun e s' => R (.error e) s') s := by
  have ht : s.heap.IsTuple l items := let ⟨nl, e⟩ := hd; ⟨o, ho, hc, nl, e⟩
  have q1 : s.TypeIs (.ref l) "tuple" := ⟨o, ho, hc⟩
  have q2 := PySem.F.sub_tuple_set
  have q3 := PySem.F.sub_tuple_frozenset
  have q4 : (Value.type "tuple" == Value.type "dict") = false := by decide
  unfold Builtin.«set.__init__» noKeywords Builtin.Frozenset.updateFrom
  generalize ePI : pyIter = PI
  wp_walk
  subst ePI
  refine wpAny_pyIter_tuple ht (wpAny_bind (wpAny_runValue ?_))
  have sz : (s.heap.push { cls := .type "tuple_iterator", data := .fields #[.ref l, .int 0 0] }).objs.size = s.heap.objs.size + 1 := Heap.size_push ..
  have lS : S < s.heap.objs.size := Heap.lt_size hS
  have ll : l < s.heap.objs.size := Heap.lt_size ho
  have len : xs.length = items.size := by rw [← StrsAre.len_eq hi, Array.length_toList]
  have W0 := (Walks.tuple (prog := prog) (w := w) (A := A.in1.in1) (by simpa using hh) s.heap.objs.size l (Nat.ne_of_lt ll) items).toS
  rw [← len] at W0
  have nf : S ∉ [s.heap.objs.size, l] := fun m => by
    rcases List.mem_cons.mp m with e | e
    · exact absurd (e ▸ lS) (Nat.lt_irrefl _)
    · exact hne (List.mem_singleton.mp e).symm
  have M0 : Met prog w S xs 0 (s.heap.push { cls := .type "tuple_iterator", data := .fields #[.ref l, .int 0 0] }) :=
    PyProof.Rows.SetOf_congr ((PyProof.Rows.setObjOf_fresh (knd := PySem.strKind prog w) led).setOf (Heap.get?_push_of_some _ hS) (by unfold scanBound; omega)) (fun _ => rfl) rfl
  refine rounds ⟨W0, fun i v hv => ?_⟩ nf hn xs.length 0 { s with heap := s.heap.push { cls := .type "tuple_iterator", data := .fields #[.ref l, .int 0 0] } } (Nat.zero_add _) ⟨⟨_, Heap.get?_push_size _ rfl, rfl, rfl⟩, ht.push _⟩ M0 fun s2 mv m => ?_
  · obtain ⟨t, e⟩ := strs_at hi i v (by rw [Array.getElem?_toList]; exact hv)
    have hx : i < xs.length := by rw [len]; exact (Array.getElem?_eq_some_iff.mp hv).1
    exact ⟨xs[i], t, List.getElem?_eq_getElem hx, by rw [e, List.getD_eq_getElem?_getD, List.getElem?_eq_getElem hx]; rfl⟩
  · obtain ⟨h2, g2, d2, t2, o2⟩ := s2
    cases (show g2 = s.gens from mv.gens)
    cases (show d2 = s.drawn from mv.drawn)
    cases (show o2 = s.os from mv.os)
    refine wpAny_pure (wpAny_pure (fin h2 t2 m fun b u nb e => mv.heap b u (fun q => ?_) (Heap.get?_push_of_some _ e)))
    rcases List.mem_cons.mp q with q | q
    · exact nb q
    · have := Heap.lt_size e
      rw [List.mem_singleton.mp q] at this
      exact Nat.lt_irrefl _ this
end
section
variable {prog : Program} {w : World} {A : Around} {E : Value → Shared → Prop} {s : Shared}
/-- set(x), over what the new set begins with -/
theorem set_by {x : Value} {Q : Value → Shared → Prop} (go : ∀ led : Bool, wpAny (model prog w) A.in1.in1 (Builtin.«set.__init__» ⟨[.ref s.heap.objs.size, x], []⟩)
      (fun fin s' => match fin with | .done f => wants (fun r s2 => r = .none ∧ s2.TypeIs (.ref s.heap.objs.size) "set" ∧ Q (.ref s.heap.objs.size) s2) E (.ok f) s' | .again c => c.quiet = true ∧ codeAny (model prog w) A.in1 c (wants (fun r s2 => r = .none ∧ s2.TypeIs (.ref s.heap.objs.size) "set" ∧ Q (.ref s.heap.objs.size) s2) E) s')
      (fun e s' => wants (fun r s2 => r = .none ∧ s2.TypeIs (.ref s.heap.objs.size) "set" ∧ Q (.ref s.heap.objs.size) s2) E (.error e) s')
      { s with heap := s.heap.push { cls := .type "set", dict := none, data := .set #[] 0 (.fresh 0 0 led) } }) :
    wpAny (model prog w) A (call (.type "set") [x]) Q E s := by
  have k1 := PySem.F.called_set
  obtain ⟨c, tl, k2⟩ := k1.mro
  have k3 := k1.made
  have k4 := k1.sub
  have k5 := k1.notType
  have k6 := k1.canCreate
  have k7 := PySem.F.typeCall_set_1 x
  refine wpAny_call (codeAny_of_tree (wpAny_pure ⟨Code.quiet_builtin _ (by decide +kernel), codeAny_builtin PySem.F.entry_type_call ?_⟩))
  rw [Around.under_plain (weight_type_call_type "set" [x] []) rfl]
  repeat (any_goals (first | assumption | wp_step))
  refine codeAny_mono (code_set_new_1 x (E := E) (Q₁ := fun y s1 => ∃ led : Bool, y = .ref s.heap.objs.size ∧ s1 = { s with heap := s.heap.push { cls := .type "set", dict := none, data := .set #[] 0 (.fresh 0 0 led) } }) fun led => ⟨led, rfl, rfl⟩) fun r s1 hr => ?_
  match r, hr with
  | .error e, hr => exact hr
  | .ok (.ret y), hr =>
    obtain ⟨led, rfl, rfl⟩ := hr
    have k8 := k1.init.lookup
    have k9 := k1.init.bind (.ref s.heap.objs.size)
    have ty : Shared.TypeIs { s with heap := s.heap.push { cls := .type "set", dict := none, data := .set #[] 0 (.fresh 0 0 led) } } (.ref s.heap.objs.size) "set" := ⟨_, Heap.get?_push_size _ rfl, rfl⟩
    repeat (any_goals (first | assumption | wp_step))
    refine codeAny_mono (codeAny_call_builtin k1.init.plain PySem.F.entry_set_init (check_set_init_1 ty (go led))) fun r2 s2 h2 => ?_
    match r2, h2 with
    | .error e, h2 => exact h2
    | .ok (.ret y), h2 =>
      obtain ⟨rfl, ty2, q⟩ := h2
      repeat (any_goals (first | assumption | wp_step))
/-- set(t) of a tuple of texts -/
theorem set_of_texts {l : Addr} {items : Array Value} {xs : List Str} {Q : Value → Shared → Prop} (hh : A.handled = none) (hl : s.heap.IsTuple l items) (hi : PyProof.Rows.StrsAre items.toList xs) (hn : xs.length < 4000)
    (q : ∀ (h' : Heap) (tk : Nat), Met prog w s.heap.objs.size xs xs.length h' → (∀ b u, s.heap.get? b = some u → h'.get? b = some u) → Q (.ref s.heap.objs.size) { s with heap := h', toks := tk }) :
    wpAny (model prog w) A (call (.type "set") [.ref l]) Q E s := by
  obtain ⟨o, ho, hc, hd⟩ := hl
  have lt := Heap.lt_size ho
  refine set_by fun led => init_texts (A := A.in1) (by simpa using hh) (Heap.get?_push_size _ rfl) (Heap.get?_push_of_some _ ho) hc hd (Nat.ne_of_lt lt) hi hn fun h' tk m k => ⟨rfl, ?_, q h' tk m fun b u e => k b u (Nat.ne_of_lt (Heap.lt_size e)) (Heap.get?_push_of_some _ e)⟩
  exact PySem.Heap.SetOf.typeIs (s := { s with heap := h', toks := tk }) m
end
end TdSet
namespace Td
open PySem PySem.Spec PyProof.Rows L2
section
variable {X : Cx}
/-- len(set(t)), t a tuple of texts -/
def tLenSetT (K : PySem.W.Frag) (t : TE) : TE := fun σ H Q => t σ H fun x H1 => ∃ (l : Addr) (xs : List Str), x = .ref l ∧ SqT K H1 l (xs.map V.str) ∧ xs.length < 4000 ∧ Q (.int (TdSet.dcnt xs xs.length : Nat)) H1
theorem pe_lenSetT {a : Expr} {t : TE} {p p2 q pos : Pos} (hc : X.calm = true) (g1 : Gl X "len") (m1 : X.mg "len" = none) (g2 : Gl X "set") (m2 : X.mg "set" = none) (ha : PE X a t)
    (na : starEach [a] X.env = (false, eval a X.env) :: starEach [] X.env := by rfl) (no : starEach [.Call (.Name "set" p2) [a] [] q] X.env = (false, eval (.Call (.Name "set" p2) [a] [] q) X.env) :: starEach [] X.env := by rfl) :
    PE X (.Call (.Name "len" p) [.Call (.Name "set" p2) [a] [] q] [] pos) (tLenSetT X.K t) := by
  refine ⟨fun pins s σ H Q I h => wpAny_Call_Name_kw (ld_blt I g1 m1 boot_len (PyProof.Rows.callWith_builtin1 (PyProof.Rows.args_cons (wpAny_Call_Name_kw (ld_blt I g2 m2 boot_set (PyProof.Rows.callWith_type1 (PyProof.Rows.args_cons (thn (ha.run pins s σ H _ I h) fun v s1 ⟨x, H1, I1, r1, l, xs, ex, hq, hn, k⟩ => PyProof.Rows.args_nil ?_) na) na rfl))) no) no rfl))⟩
  subst ex
  cases r1
  obtain ⟨us, r, tp, _⟩ := I1.tuple hq
  refine TdSet.set_of_texts (I1.ok.hd hc) tp (xs := xs) (by simpa using strsAre_of r) hn fun h' tk m kp => PyProof.Rows.args_nil ?_
  have J : Inv X pins σ H1 { s1 with heap := h', toks := tk } := I1.kept kp
  have dl := TdSet.dcnt_le xs xs.length
  obtain ⟨o, es, ep, tb, e1, e2, e3, _, _, _, e7, e8⟩ := m
  exact call_len_set e1 e2 e3 e7 (by rw [e8]; omega) ⟨.int (TdSet.dcnt xs xs.length : Nat), H1, J.tok _, ⟨_, by rw [e8]⟩, k⟩
end
/-- xs[i] op= e on a list -/
def rGetL : V → V → Hp → VK → Prop := fun o i H Q => ∃ p xs k v, o = .ref p ∧ i = .int k ∧ H p = some (.lst xs) ∧ atI xs k = some v ∧ Q v H
end Td
namespace Td
open PySem PySem.Spec PyProof.Rows L2
section
variable {X : Cx}
/-! ### a written dict, asked by .get -/
def KTab (K : PySem.W.Frag) (w : World) (a : Addr) : Prop :=
  ∃ es n, K.lookup a = some ⟨.type "dict", none, .dict es n, #[]⟩ ∧ PySem.W.KeysLit w.params es.toList ∧ (a == sysModules) = false
def tKGet (K : PySem.W.Frag) (w : World) (td ty : TE) : TE := fun σ H Q => td σ H fun x H1 => ∃ a, x = .ref a ∧ KTab K w a ∧
  ty σ H1 fun y H2 => ∃ z, y = .str z ∧ ((∃ v, KDct K w a z v ∧ Q v H2) ∨ (PySem.W.nsIn K a z = some none ∧ Q .non H2))
theorem pe_kget {o e : Expr} {td ty : TE} {apos cpos : Pos} (ho : PE X o td) (he : PE X e ty) (m : M1 X o "get" apos e cpos) :
    PE X (.Call (.Attribute o "get" apos) [e] [] cpos) (tKGet X.K X.w td ty) := by
  refine ⟨fun pins s σ H Q I h => ?_⟩
  refine wpAny_Call_method m.base m.few m.line PySem.F.plainAttrs_dict PySem.F.slot_dict_get PySem.F.type_dict_get
    (thn (ho.run pins s σ H _ I h) fun u s1 ⟨x, H1, I1, rx, a, ex, ⟨es, n, hl, hk, low⟩, q1⟩ => ?_)
  subst ex
  obtain rfl : u = Value.ref a := rx
  have hm := PySem.W.mapOf_K (prog := X.prog) (w := X.w) I1.kIn hl hk
  refine ⟨hm.typeIs, hm.noDict, ?_⟩
  rw [m.trees]
  refine Calls.callWith_builtin rfl (Calls.evalArgs_plain (Calls.spliced_cons
    (thn (he.run pins s1 σ H1 _ I1 q1) fun iv s2 ⟨y, H2, I2, ry, z, ey, q2⟩ => Calls.spliced_nil ?_)))
  subst ey
  obtain ⟨t, rfl⟩ := ry
  have hm2 := PySem.W.mapOf_K (prog := X.prog) (w := X.w) I2.kIn hl hk
  rcases q2 with ⟨v, ⟨es', n', u0, hl', hk', e0, ru⟩, q⟩ | ⟨e0, q⟩
  · refine call_meetsIn PySem.F.slot_dict_get hm2.typeIs PySem.F.entry_dict_get (PySem.F.args_dict_get_2 _ _)
      (meets_dict_get (strKind X.prog X.w) a (strKind_is X.prog X.w z t) low) ⟨_, hm2, ?_⟩
    have := PySem.W.find_K hl e0
    rw [this]
    exact ⟨v, H2, I2.tok _, ru, q⟩
  · refine call_meetsIn PySem.F.slot_dict_get hm2.typeIs PySem.F.entry_dict_get (PySem.F.args_dict_get_2 _ _)
      (meets_dict_get (strKind X.prog X.w) a (strKind_is X.prog X.w z t) low) ⟨_, hm2, ?_⟩
    have := PySem.W.find_K hl e0
    rw [this]
    exact ⟨.non, H2, I2.tok _, rfl, q⟩

/-! ### xs[i] of a list, by values -/
def rGetLi (K : PySem.W.Frag) : V → V → Hp → VK → Prop := fun o i H Q => ∃ (p : Addr) (xs : List V) (k : Nat) (v : V), o = .ref p ∧ i = .int (k : Nat) ∧ SqL K H p xs ∧ xs[k]? = some v ∧ Q v H
theorem get_list : PGet X (rGetLi X.K) := by
  intro pins s σ H o i ov iv Q I ro ri h
  obtain ⟨p, xs, k, v, rfl, rfl, hp, hv, q⟩ := h
  obtain ⟨its, r, pl, hz⟩ := I.list hp
  obtain rfl : ov = Value.ref p := ro
  obtain ⟨t, rfl⟩ := ri
  obtain ⟨w, ew, rw'⟩ := r.get hv
  have hn := line63
  have hk := (List.getElem?_eq_some_iff.mp hv).1
  have fin : EP X pins σ Q w s := ⟨v, H, I, rw', q⟩
  exact wpAny_getItem_list pl.isList (by omega) (by omega) (by rw [Int.toNat_natCast, List.getElem?_toArray]; exact ew) fin
end
/-! ### enumerate of a tuple -/
def IteT (K : PySem.W.Frag) (a : Addr) : It :=
  ⟨fun i H => ∃ (xs : List V) (x : V), SqT K H a xs ∧ xs[i]? = some x,
   fun i H v H' => ∃ T x, v = .ref T ∧ H T = none ∧ H' = upd H T (.tup [.int (i : Nat), x]) ∧ ∀ xs, SqT K H a xs → xs[i]? = some x,
   fun i H => ∃ xs : List V, SqT K H a xs ∧ xs.length = i⟩
theorem turn_enumT {P : Program} {w : World} {K : PySem.W.Frag} {elts : List Expr} {kk : Nat} {tpos : Pos} (a e it : Addr) :
    Turn P w K (.Tuple elts kk tpos) (IteT K a) [e, it] e
      (fun i h => (∃ old, IsEnum h e it ((i : Nat) : Int) old) ∧ h.IsTupleIter it a i ∧ e ≠ it) where
  mem := by simp
  obj := fun i h st b hb => by
    obtain ⟨⟨old, he⟩, ⟨o, ho, hc, hd⟩, _⟩ := st
    have e' : b = e ∨ b = it := by simpa using hb
    rcases e' with z | z
    · subst z; exact ⟨_, he, fun v q => nomatch q⟩
    · subst z; exact ⟨o, ho, fun v q => by rw [hd] at q; cases q⟩
  keep := fun i h h' st k => by
    obtain ⟨⟨old, he⟩, hi, hne⟩ := st
    exact ⟨⟨old, k e (by simp) _ he⟩, hi.at fun o q => k it (by simp) o q, hne⟩
  item := by
    intro X hP hw hK hc i pins s σ H E I hf st hg
    subst hP hw hK
    obtain ⟨⟨old, he⟩, hit, hne⟩ := st
    obtain ⟨xs, x, hq, hx⟩ := hg
    obtain ⟨its, rv, p, hz⟩ := I.tuple hq
    obtain ⟨u, hu, ru⟩ := rv.get hx
    have hel : e < s.heap.objs.size := Heap.lt_size he
    have hil : it < s.heap.objs.size := by obtain ⟨_, q, _⟩ := hit; exact Heap.lt_size q
    have hai : a ≠ it := fun z => by
      obtain ⟨o1, g1, c1, _⟩ := hit
      obtain ⟨o2, g2, c2, _⟩ := p
      rw [z, g1] at g2
      cases g2
      rw [c1] at c2
      exact absurd c2 (by decide)
    have hae : a ≠ e := fun z => by
      obtain ⟨o2, g2, c2, _⟩ := p
      rw [z, show s.heap.get? e = some _ from he] at g2
      cases g2
      change Value.type "enumerate" = Value.type "tuple" at c2
      exact absurd c2 (by decide)
    have hh : X.A.in1.handled = none := by simp [I.ok.hd hc]
    have D := Draws.tuple (prog := X.prog) (w := X.w) hh it a hai its.toArray
    have hlt : i < its.toArray.size := by
      rw [List.size_toArray, ← rv.length]
      exact (List.getElem?_eq_some_iff.mp hx).1
    refine wpAny_pyNext_enum_itemD D he ⟨hit, p⟩ hlt hne (by simp [hne, Ne.symm hae]) fun y h' tk hy ho hit' hT hsz hk => ?_
    have hyu : y = u := by
      have : its.toArray[i]? = some y := hy
      rw [List.getElem?_toArray, hu] at this
      exact (Option.some.inj this).symm
    subst hyu
    refine ⟨_, rfl, wpAny_letOwnedTupleGo_enum (s := { s with heap := h', toks := tk + 1 }) ho fun h2 he2 sb => ?_⟩
    have hT2 : h2.get? s.heap.objs.size = some { cls := .type "tuple", data := .seq #[.int i tk, y] } :=
      (sb.2 _ (Nat.ne_of_gt hel)).trans hT
    have new : ObjOk X.prog X.w (upd H s.heap.objs.size (.tup [.int (i : Nat), x])) h2 s.heap.objs.size (.tup [.int (i : Nat), x]) :=
      ⟨by show 2 ≤ sizeLine; decide, [.int i tk, y], .cons ⟨_, rfl⟩ (.cons ru .nil), ⟨_, hT2, rfl, _, rfl⟩⟩
    have I1 : L2.Inv X pins σ (upd H s.heap.objs.size (.tup [.int (i : Nat), x])) { s with heap := h2, toks := tk + 1 } :=
      I.turnedNew (ch := [e, it]) (fun b ob hb q => (sb.2 b (fun z => hb (by simp [z]))).trans
        (hk b ob (fun z => hb (by simp [z])) (fun z => hb (by simp [z])) q)) hf (Nat.le_refl _) new
    refine ⟨.ref s.heap.objs.size, _, I1, rfl, ⟨_, x, rfl, I.hok.fresh (Nat.le_refl _), rfl, fun ys hy => by rw [I.tuple_inj hy hq]; exact hx⟩,
      ⟨⟨y, ?_⟩, hit'.1.at fun o q => (sb.2 it (Ne.symm hne)).trans q, hne⟩, fun b hb => ?_⟩
    · have e1 : ((i + 1 : Nat) : Int) = (i : Int) + 1 := by omega
      rw [e1]; exact he2
    · have hb' : b < s.heap.objs.size := by
        have e' : b = e ∨ b = it := by simpa using hb
        rcases e' with z | z
        · subst z; exact hel
        · subst z; exact hil
      rw [upd_ne (Nat.ne_of_lt hb')]
      exact (hf b hb).1
  done := by
    intro X hP hw hK hc i pins s σ H E I hf st hg
    subst hP hw hK
    obtain ⟨⟨old, he⟩, hit, hne⟩ := st
    obtain ⟨xs, hq, hx⟩ := hg
    obtain ⟨its, rv, p, hz⟩ := I.tuple hq
    obtain ⟨f0, f1, f2, f3, f4, f5⟩ := hf it (by simp)
    have hai : a ≠ it := fun z => by
      obtain ⟨o1, g1, c1, _⟩ := hit
      obtain ⟨o2, g2, c2, _⟩ := p
      rw [z, g1] at g2
      cases g2
      rw [c1] at c2
      exact absurd c2 (by decide)
    have hh : X.A.in1.handled = none := by simp [I.ok.hd hc]
    have D := Draws.tuple (prog := X.prog) (w := X.w) hh it a hai its.toArray
    have hn : its.toArray.size = i := by rw [List.size_toArray, ← rv.length]; exact hx
    refine wpAny_pyNext_enum_endD D he ⟨by rw [hn]; exact hit, p⟩ fun h' eb => ⟨rfl, I.turned (t' := s.toks) (fun b o hb q => eb b o hb q) f0 f1 f3 f4 f5⟩
  self := fun A i s Q E st h => let ⟨⟨_, he⟩, _⟩ := st; wpAny_pyIter_enum he h

/-- enumerate(t) made -/
theorem meets_enumT {v : Value} {o : Obj} {H : Heap → Prop} (B : Begins v o H) :
    Meets (Builtin.«enumerate.__new__» ⟨[.type "enumerate", v], []⟩) (fun _ R s => H s.heap ∧
      R (.ok (.ret (.ref (s.heap.push o).objs.size)))
        { s with heap := (s.heap.push o).push { cls := .type "enumerate", data := .fields #[.none, .bool false, .ref s.heap.objs.size, rawInt 0, .none, .none] } }) :=
  .of_wp fun prog w A R s h => by
    obtain ⟨hp, g, d, tk, os⟩ := s; obtain ⟨h1, h⟩ := h
    have hsub := sub_enumerate
    have q1 : ∀ {A' : Around} {E : Value → Shared → Prop} {Q : Value → Shared → Prop}, Q (.ref hp.objs.size) ⟨hp.push o, g, d, tk, os⟩ →
        wpAny (model prog w) A' (pyIter v) Q E ⟨hp, g, d, tk, os⟩ := fun q => B.iter prog w _ _ ⟨hp, g, d, tk, os⟩ _ h1 q
    wp_walk using q1
    refine wpAny_stack_any fun st => wpAny_pure ?_
    split
    · rename_i c _ _ _ _ _
      cases (c == Value.type "enumerate")
      · wp_walk using q1
        exact ⟨_, rfl, h⟩
      · wp_walk using q1
        exact ⟨_, rfl, h⟩
    · wp_walk using q1
      exact ⟨_, rfl, h⟩
def iEnumT (K : PySem.W.Frag) (ta : TA) : TI := fun σ H R => ta σ H fun vs H1 => ∃ a xs, vs = [.ref a] ∧ SqT K H1 a xs ∧ R (IteT K a) H1
theorem pi_enumT {X : Cx} {e : Expr} {ta : TA} {p pos tpos : Pos} {elts : List Expr} {kk : Nat} (hg : Gl X "enumerate") (hm : X.mg "enumerate" = none)
    (ha : PA X [e] ta) (hs : starEach [e] X.env = [(false, eval e X.env)] := by rfl) :
    PI X (.Tuple elts kk tpos) (.Call (.Name "enumerate" p) [e] [] pos) (iEnumT X.K ta) := by
  refine ⟨fun pins s σ H R I h => ?_⟩
  refine Call_ (ld_blt I hg hm boot_enumerate (PyProof.Rows.callWith_type1 (thn (ha.run pos pins s σ H _ I h) fun us s1 ⟨vs, H1, I1, r1, q1⟩ => ?_) hs rfl))
  obtain ⟨a, xs, ex, hq, q⟩ := q1
  subst ex
  cases r1 with
  | cons r rr =>
    cases rr
    cases r
    obtain ⟨its, rv, p', hz⟩ := I1.tuple hq
    refine callType_new F.called_enumerate (by decide) (F.typeCall_enumerate_1 _) (F.newCall_enumerate_1 _) (fun obj => F.args_object_init_2 obj _)
      F.entry_enumerate_new (meets_enumT (begins_tuple a its.toArray)) ⟨p', ?_⟩
    have z1 : (s1.heap.push { cls := .type "tuple_iterator", data := .fields #[.ref a, .int 0 0] }).objs.size = s1.heap.objs.size + 1 := Heap.size_push ..
    show _ ∧ _
    rw [z1]
    have he : IsEnum ((s1.heap.push { cls := .type "tuple_iterator", data := .fields #[.ref a, .int 0 0] }).push
        { cls := .type "enumerate", data := .fields #[.none, .bool false, .ref s1.heap.objs.size, rawInt 0, .none, .none] })
        (s1.heap.objs.size + 1) s1.heap.objs.size 0 .none := by
      have := Heap.get?_push_size (s1.heap.push { cls := .type "tuple_iterator", data := .fields #[.ref a, .int 0 0] })
        (o := { cls := .type "enumerate", data := .fields #[.none, .bool false, .ref s1.heap.objs.size, rawInt 0, .none, .none] }) rfl
      rw [z1] at this; exact this
    refine ⟨⟨_, he, rfl⟩, ?_⟩
    refine wpAny_pyIter_enum he ?_
    have I2 : L2.Inv X pins σ H1 ⟨(s1.heap.push { cls := .type "tuple_iterator", data := .fields #[.ref a, .int 0 0] }).push { cls := .type "enumerate", data := .fields #[.none, .bool false, .ref s1.heap.objs.size, rawInt 0, .none, .none] }, s1.gens, s1.drawn, s1.toks, s1.os⟩ :=
      I1.kept (t' := s1.toks) fun b o x => Heap.get?_push_of_some _ (Heap.get?_push_of_some _ x)
    refine ⟨s1.heap.objs.size + 1, [s1.heap.objs.size + 1, s1.heap.objs.size], _, _, H1, rfl, I2, turn_enumT a (s1.heap.objs.size + 1) s1.heap.objs.size,
      ⟨⟨.none, he⟩, ⟨_, Heap.get?_push_of_some _ (Heap.get?_push_size _ rfl), rfl, rfl⟩, Nat.succ_ne_self _⟩, fun b hb => ?_, q⟩
    have e' : b = s1.heap.objs.size + 1 ∨ b = s1.heap.objs.size := by simpa using hb
    have hle : s1.heap.objs.size ≤ b := by
      rcases e' with z | z
      · rw [z]; exact Nat.le_succ _
      · rw [z]; exact Nat.le_refl _
    exact I1.fpOk hle (I1.hok.fresh hle)
end Td
/-! Data: what stays, data in the heap, names, rows. -/
namespace Td
open PySem PySem.Spec PyProof.Rows L2

/-! ### what stays while the object at st changes -/
def Keep (st : Addr) (H H' : Hp) : Prop := ∀ b o, b ≠ st → H b = some o → H' b = some o
theorem Keep.refl (st : Addr) (H : Hp) : Keep st H H := fun _ _ _ h => h
theorem Keep.trans {st : Addr} {H H1 H2 : Hp} (a : Keep st H H1) (b : Keep st H1 H2) : Keep st H H2 := fun c o n h => b c o n (a c o n h)
theorem Keep.upd {st : Addr} {H : Hp} {o : HO} : Keep st H (upd H st o) := fun b u n h => by rw [upd_ne n]; exact h
theorem Keep.new {st p : Addr} {H : Hp} {o : HO} (h : H p = none) : Keep st H (L2.upd H p o) := fun b u n e => by
  rw [upd_ne (ne_of_none e h)]; exact e
theorem Keep.free {st p : Addr} {H H' : Hp} (k : Keep st H H') (n : p ≠ st) (h : H' p = none) : H p = none := by
  cases e : H p with
  | none => rfl
  | some o => rw [k p o n e] at h; cases h
/-- an object that was not there at first is changed -/
theorem Keep.own {st p : Addr} {H H' : Hp} {o : HO} (k : Keep st H H') (h : H p = none) : Keep st H (L2.upd H' p o) := fun b u nb e => by
  rw [upd_ne (ne_of_none e h)]; exact k b u nb e
theorem Same.new {H : Hp} {p : Addr} (h : H p = none) (o : HO) : Same H (upd H p o) := fun b u e => by
  rw [upd_ne (ne_of_none e h)]; exact e
theorem Same.keep {H H' : Hp} (h : Same H H') (st : Addr) : Keep st H H' := fun b o _ e => h b o e

/-! ### immutable and mutable data, away from st -/
section
variable {K : PySem.W.Frag} {H H' : Hp} {a : Addr} {xs : List V}
theorem SqT.same (s : Same H H') (h : SqT K H a xs) : SqT K H' a xs := by
  rcases h with (h | ⟨o, h⟩) | h
  · exact .inl (.inl (s _ _ h))
  · exact .inl (.inr ⟨o, s _ _ h⟩)
  · exact .inr h
theorem SqL.same (s : Same H H') (h : SqL K H a xs) : SqL K H' a xs := s.seq h
theorem SqT.keep {st : Addr} (s : Keep st H H') (n : a ≠ st) (h : SqT K H a xs) : SqT K H' a xs := by
  rcases h with (h | ⟨o, h⟩) | h
  · exact .inl (.inl (s _ _ n h))
  · exact .inl (.inr ⟨o, s _ _ n h⟩)
  · exact .inr h
theorem SqL.keep {st : Addr} (s : Keep st H H') (n : a ≠ st) (h : SqL K H a xs) : SqL K H' a xs := by
  rcases h with (h | ⟨o, h⟩) | h
  · exact .inl (.inl (s _ _ n h))
  · exact .inl (.inr ⟨o, s _ _ n h⟩)
  · exact .inr h
end
mutual
/-- data at a value, none of its objects at st -/
inductive Dn (K : PySem.W.Frag) (st : Addr) (H : Hp) : V → PyData → Prop
  | non : Dn K st H .non .none
  | bl (b : Bool) : Dn K st H (.bl b) (.bool b)
  | int (i : Int) : Dn K st H (.int i) (.int i)
  | str (x : Str) : Dn K st H (.str x) (.str x)
  | lst {a : Addr} {xs : List V} {ds : List PyData} : a ≠ st → SqL K H a xs → DnAll K st H xs ds → Dn K st H (.ref a) (.list ds)
  | tup {a : Addr} {xs : List V} {ds : List PyData} : a ≠ st → SqT K H a xs → DnAll K st H xs ds → Dn K st H (.ref a) (.tuple ds)
inductive DnAll (K : PySem.W.Frag) (st : Addr) (H : Hp) : List V → List PyData → Prop
  | nil : DnAll K st H [] []
  | cons {v : V} {vs : List V} {d : PyData} {ds : List PyData} : Dn K st H v d → DnAll K st H vs ds → DnAll K st H (v :: vs) (d :: ds)
end
section
variable {K : PySem.W.Frag} {H H' : Hp} {st : Addr}
mutual
theorem Dn.keep (s : Keep st H H') : ∀ {v : V} {d : PyData}, Dn K st H v d → Dn K st H' v d
  | _, _, .non => .non
  | _, _, .bl b => .bl b
  | _, _, .int b => .int b
  | _, _, .str b => .str b
  | _, _, .lst n q r => .lst n (SqL.keep s n q) (DnAll.keep s r)
  | _, _, .tup n q r => .tup n (SqT.keep s n q) (DnAll.keep s r)
theorem DnAll.keep (s : Keep st H H') : ∀ {v : List V} {d : List PyData}, DnAll K st H v d → DnAll K st H' v d
  | _, _, .nil => .nil
  | _, _, .cons a b => .cons (Dn.keep s a) (DnAll.keep s b)
end
mutual
theorem Dn.dp : ∀ {v : V} {d : PyData}, Dn K st H v d → Dp K H v d
  | _, _, .non => .non
  | _, _, .bl b => .bl b
  | _, _, .int b => .int b
  | _, _, .str b => .str b
  | _, _, .lst n q r => .lst q (DnAll.dp r)
  | _, _, .tup n q r => .tup q (DnAll.dp r)
theorem DnAll.dp : ∀ {v : List V} {d : List PyData}, DnAll K st H v d → DpAll K H v d
  | _, _, .nil => .nil
  | _, _, .cons a b => .cons (Dn.dp a) (DnAll.dp b)
end
mutual
theorem Dp.same (s : Same H H') : ∀ {v : V} {d : PyData}, Dp K H v d → Dp K H' v d
  | _, _, .non => .non
  | _, _, .bl b => .bl b
  | _, _, .int b => .int b
  | _, _, .str b => .str b
  | _, _, .lst q r => .lst (SqL.same s q) (DpAll.same s r)
  | _, _, .tup q r => .tup (SqT.same s q) (DpAll.same s r)
theorem DpAll.same (s : Same H H') : ∀ {v : List V} {d : List PyData}, DpAll K H v d → DpAll K H' v d
  | _, _, .nil => .nil
  | _, _, .cons a b => .cons (Dp.same s a) (DpAll.same s b)
end
theorem DpAll.length : ∀ {vs : List V} {ds : List PyData}, DpAll K H vs ds → vs.length = ds.length
  | _, _, .nil => rfl
  | _, _, .cons _ r => by rw [List.length_cons, List.length_cons, DpAll.length r]
theorem DpAll.get : ∀ {vs : List V} {ds : List PyData} {i : Nat} {v : V}, DpAll K H vs ds → vs[i]? = some v → ∃ d, ds[i]? = some d ∧ Dp K H v d
  | _, _, _, _, .nil, h => by simp at h
  | _, _, 0, _, .cons a _, h => by simp at h; subst h; exact ⟨_, rfl, a⟩
  | _, _, i + 1, v, .cons _ r, h => by
    obtain ⟨d, h1, h2⟩ := DpAll.get (i := i) (v := v) r (by simpa using h)
    exact ⟨d, by simpa using h1, h2⟩
theorem DpAll.append : ∀ {vs ws : List V} {ds es : List PyData}, DpAll K H vs ds → DpAll K H ws es → DpAll K H (vs ++ ws) (ds ++ es)
  | _, _, _, _, .nil, h => h
  | _, _, _, _, .cons a r, h => .cons a (DpAll.append r h)
theorem DpAll.strs (zs : List Str) : DpAll K H (zs.map V.str) (zs.map PyData.str) := by
  induction zs with
  | nil => exact .nil
  | cons z r ih => exact .cons (.str z) ih
theorem DnAll.strs (zs : List Str) : DnAll K st H (zs.map V.str) (zs.map PyData.str) := by
  induction zs with
  | nil => exact .nil
  | cons z r ih => exact .cons (.str z) ih
theorem DnAll.append : ∀ {vs ws : List V} {ds es : List PyData}, DnAll K st H vs ds → DnAll K st H ws es → DnAll K st H (vs ++ ws) (ds ++ es)
  | _, _, _, _, .nil, h => h
  | _, _, _, _, .cons a r, h => .cons a (DnAll.append r h)
theorem DnAll.length : ∀ {vs : List V} {ds : List PyData}, DnAll K st H vs ds → vs.length = ds.length
  | _, _, .nil => rfl
  | _, _, .cons _ r => by rw [List.length_cons, List.length_cons, DnAll.length r]
theorem DnAll.get : ∀ {vs : List V} {ds : List PyData} {i : Nat} {v : V}, DnAll K st H vs ds → vs[i]? = some v → ∃ d, ds[i]? = some d ∧ Dn K st H v d
  | _, _, _, _, .nil, h => by simp at h
  | _, _, 0, _, .cons a _, h => by simp at h; subst h; exact ⟨_, rfl, a⟩
  | _, _, i + 1, v, .cons _ r, h => by
    obtain ⟨d, h1, h2⟩ := DnAll.get (i := i) (v := v) r (by simpa using h)
    exact ⟨d, by simpa using h1, h2⟩
/-- a tuple's value -/
theorem Dp.tup_inv {v : V} {ds : List PyData} (h : Dp K H v (.tuple ds)) : ∃ a xs, v = .ref a ∧ SqT K H a xs ∧ DpAll K H xs ds := by
  cases h with
  | tup q r => exact ⟨_, _, rfl, q, r⟩
theorem Dn.tup_inv {v : V} {ds : List PyData} (h : Dn K st H v (.tuple ds)) : ∃ a xs, v = .ref a ∧ a ≠ st ∧ SqT K H a xs ∧ DnAll K st H xs ds := by
  cases h with
  | tup n q r => exact ⟨_, _, rfl, n, q, r⟩
theorem Dp.str_inv {v : V} {z : Str} (h : Dp K H v (.str z)) : v = .str z := by cases h; rfl
theorem Dn.str_inv {v : V} {z : Str} (h : Dn K st H v (.str z)) : v = .str z := by cases h; rfl
theorem DpAll.strs_inv : ∀ {vs : List V} {zs : List Str}, DpAll K H vs (zs.map PyData.str) → vs = zs.map V.str
  | vs, [], h => by cases h; rfl
  | vs, z :: zs, h => by
    cases h with
    | cons a r => cases a; rw [DpAll.strs_inv r]; rfl
theorem DnAll.strs_inv : ∀ {vs : List V} {zs : List Str}, DnAll K st H vs (zs.map PyData.str) → vs = zs.map V.str
  | vs, [], h => by cases h; rfl
  | vs, z :: zs, h => by
    cases h with
    | cons a r => cases a; rw [DnAll.strs_inv r]; rfl
theorem DnAll.of_dp_new {p : Addr} {o : HO} {vs : List V} {ds : List PyData} (h : DnAll K st H vs ds) (hp : H p = none) : DnAll K st (upd H p o) vs ds := DnAll.keep (Keep.new hp) h
theorem Dn.new {p : Addr} {o : HO} {v : V} {d : PyData} (h : Dn K st H v d) (hp : H p = none) : Dn K st (upd H p o) v d := Dn.keep (Keep.new hp) h
end

/-! ### names -/
def lowc (c : Nat) : Bool := decide (97 ≤ c) && decide (c ≤ 122)
def isNm (z : Str) : Bool := decide (1 ≤ z.length) && decide (z.length ≤ 8) && z.cps.toList.all lowc

/-! ### rows -/
inductive Row where
  | rd (pk : Bool) (c s : Str)
  | put (s w : Str)
  | give (s : Str)
  | say (s : Str)
  | wr (c s : Str)
  | ite (s w : Str) (y n : List Row)
mutual
def rowD : Row → PyData
  | .rd pk c s => .tuple [.str (if pk then "peek" else "read"), .str c, .str s]
  | .put s w => .tuple [.str "put", .str s, .str w]
  | .give s => .tuple [.str "give", .str s]
  | .say s => .tuple [.str "say", .str s]
  | .wr c s => .tuple [.str "write", .str c, .str s]
  | .ite s w y n => .tuple [.str "if", .str s, .str w, .tuple (rowsD y), .tuple (rowsD n)]
def rowsD : List Row → List PyData
  | [] => []
  | r :: rs => rowD r :: rowsD rs
end
theorem rowsD_length : ∀ rs, (rowsD rs).length = rs.length
  | [] => by unfold rowsD; rfl
  | r :: rs => by unfold rowsD; rw [List.length_cons, List.length_cons, rowsD_length rs]
theorem rowsD_append : ∀ rs ts, rowsD (rs ++ ts) = rowsD rs ++ rowsD ts
  | [], ts => by simp [rowsD]
  | r :: rs, ts => by simp only [List.cons_append, rowsD, rowsD_append rs ts]
theorem rowsD_get : ∀ {rs : List Row} {i : Nat} {r : Row}, rs[i]? = some r → (rowsD rs)[i]? = some (rowD r)
  | [], i, r, h => by simp at h
  | x :: rs, 0, r, h => by simp at h; subst h; unfold rowsD; rfl
  | x :: rs, i + 1, r, h => by
    unfold rowsD
    rw [List.getElem?_cons_succ]
    exact rowsD_get (by simpa using h)
mutual
def cnt : Row → Nat
  | .ite _ _ y n => 1 + cnts y + cnts n
  | .rd .. => 1
  | .put .. => 1
  | .give .. => 1
  | .say .. => 1
  | .wr .. => 1
def cnts : List Row → Nat
  | [] => 0
  | r :: rs => cnt r + cnts rs
end
theorem cnts_append : ∀ rs ts, cnts (rs ++ ts) = cnts rs + cnts ts
  | [], ts => by simp [cnts]
  | r :: rs, ts => by
    simp only [List.cons_append, cnts, cnts_append rs ts]; omega
/-- what the rows of a body may be and may name -/
structure Sc where
  eff : Bool
  words : List Str
  sources : List Str
  readable : List Str
mutual
def okR (S : Sc) (dep : Nat) : Row → Prop
  | .rd pk c s => (pk = true → S.eff = true) ∧ c ∈ S.readable ∧ isNm s = true
  | .put s w => isNm s = true ∧ w ∈ S.words
  | .give s => S.eff = false ∧ isNm s = true
  | .say s => S.eff = true ∧ isNm s = true
  | .wr c s => S.eff = true ∧ c ∈ S.sources ∧ isNm s = true
  | .ite s w y n => dep ≤ 3 ∧ isNm s = true ∧ w ∈ S.words ∧ okRs S (dep + 1) y ∧ okRs S (dep + 1) n
def okRs (S : Sc) (dep : Nat) : List Row → Prop
  | [] => True
  | r :: rs => okR S dep r ∧ okRs S dep rs
end
theorem okRs_append {S : Sc} {dep : Nat} : ∀ {rs ts}, okRs S dep rs → okRs S dep ts → okRs S dep (rs ++ ts)
  | [], ts, _, h => h
  | r :: rs, ts, h, h2 => by
    unfold okRs at h
    show okRs S dep (r :: (rs ++ ts))
    unfold okRs
    exact ⟨h.1, okRs_append h.2 h2⟩
theorem okRs_get {S : Sc} {dep : Nat} : ∀ {rs : List Row} {i : Nat} {r : Row}, okRs S dep rs → rs[i]? = some r → okR S dep r
  | [], i, r, _, h => by simp at h
  | x :: rs, 0, r, ok, h => by
    unfold okRs at ok
    simp at h; subst h; exact ok.1
  | x :: rs, i + 1, r, ok, h => by
    unfold okRs at ok
    exact okRs_get ok.2 (by simpa using h)
theorem okRs_one {S : Sc} {dep : Nat} {r : Row} (h : okR S dep r) : okRs S dep [r] := by
  unfold okRs
  exact ⟨h, by unfold okRs; trivial⟩
end Td
namespace Td
open PySem PySem.Spec PyProof.Rows L2
/-- an if whose test is known -/
theorem if_true_of {c : Bool} {A B : Prop} (hc : c = true) (h : A) : if c = true then A else B := by
  rw [if_pos hc]; exact h
theorem if_false_of {c : Bool} {A B : Prop} (hc : c = false) (h : B) : if c = true then A else B := by
  rw [hc, if_neg Bool.false_ne_true]; exact h
def rowTag : Row → Str
  | .rd pk _ _ => if pk then "peek" else "read"
  | .put .. => "put"
  | .give .. => "give"
  | .say .. => "say"
  | .wr .. => "write"
  | .ite .. => "if"
def isIte : Row → Bool
  | .ite .. => true
  | _ => false
theorem tag_if (r : Row) : decide (V.str (rowTag r) = V.str "if") = isIte r := by
  cases r with
  | rd pk c s =>
    cases pk
    · show decide (V.str "read" = V.str "if") = false; decide +kernel
    · show decide (V.str "peek" = V.str "if") = false; decide +kernel
  | put => show decide (V.str "put" = V.str "if") = false; decide +kernel
  | give => show decide (V.str "give" = V.str "if") = false; decide +kernel
  | say => show decide (V.str "say" = V.str "if") = false; decide +kernel
  | wr => show decide (V.str "write" = V.str "if") = false; decide +kernel
  | ite => show decide (V.str "if" = V.str "if") = true; decide +kernel
section
variable {K : PySem.W.Frag} {H H' : Hp} {st : Addr} {v : V}
/-- a row's tuple -/
theorem row_at {r : Row} (h : Dp K H v (rowD r)) : ∃ a xs, v = .ref a ∧ SqT K H a xs ∧ xs[0]? = some (.str (rowTag r)) := by
  cases r with
  | rd pk c s =>
    obtain ⟨a, xs, rfl, hS, hD⟩ := Dp.tup_inv (by unfold rowD at h; exact h)
    cases hD with | cons h1 _ => cases h1; exact ⟨a, _, rfl, hS, rfl⟩
  | put s w =>
    obtain ⟨a, xs, rfl, hS, hD⟩ := Dp.tup_inv (by unfold rowD at h; exact h)
    cases hD with | cons h1 _ => cases h1; exact ⟨a, _, rfl, hS, rfl⟩
  | give s =>
    obtain ⟨a, xs, rfl, hS, hD⟩ := Dp.tup_inv (by unfold rowD at h; exact h)
    cases hD with | cons h1 _ => cases h1; exact ⟨a, _, rfl, hS, rfl⟩
  | say s =>
    obtain ⟨a, xs, rfl, hS, hD⟩ := Dp.tup_inv (by unfold rowD at h; exact h)
    cases hD with | cons h1 _ => cases h1; exact ⟨a, _, rfl, hS, rfl⟩
  | wr c s =>
    obtain ⟨a, xs, rfl, hS, hD⟩ := Dp.tup_inv (by unfold rowD at h; exact h)
    cases hD with | cons h1 _ => cases h1; exact ⟨a, _, rfl, hS, rfl⟩
  | ite s w y n =>
    obtain ⟨a, xs, rfl, hS, hD⟩ := Dp.tup_inv (by unfold rowD at h; exact h)
    cases hD with | cons h1 _ => cases h1; exact ⟨a, _, rfl, hS, rfl⟩
theorem DpAll.inv2 {xs : List V} {d1 d2 : PyData} (h : DpAll K H xs [d1, d2]) : ∃ v1 v2, xs = [v1, v2] ∧ Dp K H v1 d1 ∧ Dp K H v2 d2 := by
  cases h with | cons a r => cases r with | cons b r => cases r; exact ⟨_, _, rfl, a, b⟩
theorem DpAll.inv3 {xs : List V} {d1 d2 d3 : PyData} (h : DpAll K H xs [d1, d2, d3]) : ∃ v1 v2 v3, xs = [v1, v2, v3] ∧ Dp K H v1 d1 ∧ Dp K H v2 d2 ∧ Dp K H v3 d3 := by
  cases h with | cons a r => obtain ⟨v2, v3, rfl, h2, h3⟩ := DpAll.inv2 r; exact ⟨_, _, _, rfl, a, h2, h3⟩
theorem DpAll.inv5 {xs : List V} {d1 d2 d3 d4 d5 : PyData} (h : DpAll K H xs [d1, d2, d3, d4, d5]) :
    ∃ v1 v2 v3 v4 v5, xs = [v1, v2, v3, v4, v5] ∧ Dp K H v1 d1 ∧ Dp K H v2 d2 ∧ Dp K H v3 d3 ∧ Dp K H v4 d4 ∧ Dp K H v5 d5 := by
  cases h with | cons a r => cases r with | cons b r => obtain ⟨v3, v4, v5, rfl, h3, h4, h5⟩ := DpAll.inv3 r; exact ⟨_, _, _, _, _, rfl, a, b, h3, h4, h5⟩
theorem rd_at {pk : Bool} {c s : Str} (h : Dp K H v (rowD (.rd pk c s))) : ∃ a, v = .ref a ∧ SqT K H a [.str (if pk then "peek" else "read"), .str c, .str s] := by
  obtain ⟨a, xs, rfl, hS, hD⟩ := Dp.tup_inv (by unfold rowD at h; exact h)
  obtain ⟨v1, v2, v3, rfl, h1, h2, h3⟩ := DpAll.inv3 hD
  cases h1; cases h2; cases h3
  exact ⟨a, rfl, hS⟩
theorem put_at {s c : Str} (h : Dp K H v (rowD (.put s c))) : ∃ a, v = .ref a ∧ SqT K H a [.str "put", .str s, .str c] := by
  obtain ⟨a, xs, rfl, hS, hD⟩ := Dp.tup_inv (by unfold rowD at h; exact h)
  obtain ⟨v1, v2, v3, rfl, h1, h2, h3⟩ := DpAll.inv3 hD
  cases h1; cases h2; cases h3
  exact ⟨a, rfl, hS⟩
theorem wr_at {s c : Str} (h : Dp K H v (rowD (.wr c s))) : ∃ a, v = .ref a ∧ SqT K H a [.str "write", .str c, .str s] := by
  obtain ⟨a, xs, rfl, hS, hD⟩ := Dp.tup_inv (by unfold rowD at h; exact h)
  obtain ⟨v1, v2, v3, rfl, h1, h2, h3⟩ := DpAll.inv3 hD
  cases h1; cases h2; cases h3
  exact ⟨a, rfl, hS⟩
theorem give_at {s : Str} (h : Dp K H v (rowD (.give s))) : ∃ a, v = .ref a ∧ SqT K H a [.str "give", .str s] := by
  obtain ⟨a, xs, rfl, hS, hD⟩ := Dp.tup_inv (by unfold rowD at h; exact h)
  obtain ⟨v1, v2, rfl, h1, h2⟩ := DpAll.inv2 hD
  cases h1; cases h2
  exact ⟨a, rfl, hS⟩
theorem say_at {s : Str} (h : Dp K H v (rowD (.say s))) : ∃ a, v = .ref a ∧ SqT K H a [.str "say", .str s] := by
  obtain ⟨a, xs, rfl, hS, hD⟩ := Dp.tup_inv (by unfold rowD at h; exact h)
  obtain ⟨v1, v2, rfl, h1, h2⟩ := DpAll.inv2 hD
  cases h1; cases h2
  exact ⟨a, rfl, hS⟩
theorem ite_at {s c : Str} {y n : List Row} (h : Dp K H v (rowD (.ite s c y n))) : ∃ a vy vn, v = .ref a ∧ SqT K H a [.str "if", .str s, .str c, vy, vn] ∧
    Dp K H vy (.tuple (rowsD y)) ∧ Dp K H vn (.tuple (rowsD n)) := by
  obtain ⟨a, xs, rfl, hS, hD⟩ := Dp.tup_inv (by unfold rowD at h; exact h)
  obtain ⟨v1, v2, v3, v4, v5, rfl, h1, h2, h3, h4, h5⟩ := DpAll.inv5 hD
  cases h1; cases h2; cases h3
  exact ⟨a, _, _, rfl, hS, h4, h5⟩
/-- the rows' items -/
theorem rows_at {rs : List Row} (h : Dp K H v (.tuple (rowsD rs))) : ∃ (a : Addr) (xs : List V), v = .ref a ∧ SqT K H a xs ∧ xs.length = rs.length ∧
    ∀ (i : Nat) (x : V), xs[i]? = some x → ∃ r, rs[i]? = some r ∧ Dp K H x (rowD r) := by
  obtain ⟨a, xs, rfl, hS, hD⟩ := Dp.tup_inv h
  have hl := DpAll.length hD
  rw [rowsD_length] at hl
  refine ⟨a, xs, rfl, hS, hl, fun i x hx => ?_⟩
  have hi : i < rs.length := by rw [← hl]; exact (List.getElem?_eq_some_iff.mp hx).1
  obtain ⟨d, h1, h2⟩ := DpAll.get hD hx
  have e := rowsD_get (List.getElem?_eq_getElem hi)
  rw [h1] at e
  exact ⟨_, List.getElem?_eq_getElem hi, by rw [← Option.some.inj e]; exact h2⟩
end
theorem take_more {α : Type} {l : List α} {i : Nat} {x : α} (h : l[i]? = some x) : l.take (i + 1) = l.take i ++ [x] := by
  have hi := (List.getElem?_eq_some_iff.mp h).1
  rw [List.take_succ_eq_append_getElem hi, (List.getElem?_eq_some_iff.mp h).2]
theorem cnts_take {rs : List Row} {i : Nat} {r : Row} (h : rs[i]? = some r) : cnts (rs.take (i + 1)) = cnts (rs.take i) + cnt r := by
  rw [take_more h, cnts_append]
  simp [cnts]
theorem cnt_pos : ∀ r, 1 ≤ cnt r
  | .ite _ _ y n => by unfold cnt; omega
  | .rd .. => by unfold cnt; exact Nat.le_refl _
  | .put .. => by unfold cnt; exact Nat.le_refl _
  | .give .. => by unfold cnt; exact Nat.le_refl _
  | .say .. => by unfold cnt; exact Nat.le_refl _
  | .wr .. => by unfold cnt; exact Nat.le_refl _
theorem cnt_flat : ∀ {r}, isIte r = false → cnt r = 1
  | .ite .., h => by cases h
  | .rd .., _ => rfl
  | .put .., _ => rfl
  | .give .., _ => rfl
  | .say .., _ => rfl
  | .wr .., _ => rfl
end Td
/-! Data of tuples, texts, numbers alone. -/
namespace Td
open PySem PySem.Spec PyProof.Rows L2
def TK (H H' : Hp) : Prop := (∀ b xs, H b = some (.tup xs) → H' b = some (.tup xs)) ∧ ∀ b o u, H b = some (.frz o u) → H' b = some (.frz o u)
theorem TK.refl (H : Hp) : TK H H := ⟨fun _ _ h => h, fun _ _ _ h => h⟩
theorem TK.trans {H H1 H2 : Hp} (a : TK H H1) (b : TK H1 H2) : TK H H2 := ⟨fun c xs h => b.1 c xs (a.1 c xs h), fun c o u h => b.2 c o u (a.2 c o u h)⟩
theorem TK.of_same {H H' : Hp} (s : Same H H') : TK H H' := ⟨fun c xs h => s c _ h, fun c o u h => s c _ h⟩
/-- what may change: no tuple, nothing locked -/
def Chg : Option HO → Prop
  | some (.tup _) => False
  | some (.frz _ _) => False
  | _ => True
theorem TK.of_keep {st : Addr} {H H' : Hp} (k : Keep st H H') (h : Chg (H st)) : TK H H' :=
  ⟨fun b xs e => k b _ (fun z => by rw [z] at e; rw [e] at h; exact h) e, fun b o u e => k b _ (fun z => by rw [z] at e; rw [e] at h; exact h) e⟩
theorem TK.upd {p : Addr} {H : Hp} {o : HO} (h : Chg (H p)) : TK H (L2.upd H p o) := TK.of_keep (st := p) Keep.upd h
mutual
inductive Tn (K : PySem.W.Frag) (H : Hp) : V → PyData → Prop
  | non : Tn K H .non .none
  | bl (b : Bool) : Tn K H (.bl b) (.bool b)
  | int (i : Int) : Tn K H (.int i) (.int i)
  | str (x : Str) : Tn K H (.str x) (.str x)
  | tup {a : Addr} {xs : List V} {ds : List PyData} : SqT K H a xs → TnAll K H xs ds → Tn K H (.ref a) (.tuple ds)
inductive TnAll (K : PySem.W.Frag) (H : Hp) : List V → List PyData → Prop
  | nil : TnAll K H [] []
  | cons {v : V} {vs : List V} {d : PyData} {ds : List PyData} : Tn K H v d → TnAll K H vs ds → TnAll K H (v :: vs) (d :: ds)
end
section
variable {K : PySem.W.Frag} {H H' : Hp} {st : Addr}
theorem SqT.tk {a : Addr} {xs : List V} (k : TK H H') (h : SqT K H a xs) : SqT K H' a xs := by
  rcases h with (h | ⟨o, h⟩) | h
  · exact .inl (.inl (k.1 _ _ h))
  · exact .inl (.inr ⟨o, k.2 _ _ _ h⟩)
  · exact .inr h
mutual
theorem Tn.keep (s : TK H H') : ∀ {v : V} {d : PyData}, Tn K H v d → Tn K H' v d
  | _, _, .non => .non
  | _, _, .bl b => .bl b
  | _, _, .int b => .int b
  | _, _, .str b => .str b
  | _, _, .tup q r => .tup (SqT.tk s q) (TnAll.keep s r)
theorem TnAll.keep (s : TK H H') : ∀ {v : List V} {d : List PyData}, TnAll K H v d → TnAll K H' v d
  | _, _, .nil => .nil
  | _, _, .cons a b => .cons (Tn.keep s a) (TnAll.keep s b)
end
mutual
theorem Tn.dp : ∀ {v : V} {d : PyData}, Tn K H v d → Dp K H v d
  | _, _, .non => .non
  | _, _, .bl b => .bl b
  | _, _, .int b => .int b
  | _, _, .str b => .str b
  | _, _, .tup q r => .tup q (TnAll.dp r)
theorem TnAll.dp : ∀ {v : List V} {d : List PyData}, TnAll K H v d → DpAll K H v d
  | _, _, .nil => .nil
  | _, _, .cons a b => .cons (Tn.dp a) (TnAll.dp b)
end
theorem TnAll.strs (zs : List Str) : TnAll K H (zs.map V.str) (zs.map PyData.str) := by
  induction zs with
  | nil => exact .nil
  | cons z r ih => exact .cons (.str z) ih
theorem TnAll.append : ∀ {vs ws : List V} {ds es : List PyData}, TnAll K H vs ds → TnAll K H ws es → TnAll K H (vs ++ ws) (ds ++ es)
  | _, _, _, _, .nil, h => h
  | _, _, _, _, .cons a r, h => .cons a (TnAll.append r h)
theorem TnAll.length : ∀ {vs : List V} {ds : List PyData}, TnAll K H vs ds → vs.length = ds.length
  | _, _, .nil => rfl
  | _, _, .cons _ r => by rw [List.length_cons, List.length_cons, TnAll.length r]
theorem TnAll.one {v : V} {d : PyData} (h : Tn K H v d) : TnAll K H [v] [d] := .cons h .nil
theorem Tn.tup_inv {v : V} {ds : List PyData} (h : Tn K H v (.tuple ds)) : ∃ (a : Addr) (xs : List V), v = .ref a ∧ SqT K H a xs ∧ TnAll K H xs ds := by
  cases h with
  | tup q r => exact ⟨_, _, rfl, q, r⟩
theorem TnAll.get : ∀ {vs : List V} {ds : List PyData} {i : Nat} {v : V}, TnAll K H vs ds → vs[i]? = some v → ∃ d, ds[i]? = some d ∧ Tn K H v d
  | _, _, _, _, .nil, h => by simp at h
  | _, _, 0, _, .cons a _, h => by simp at h; subst h; exact ⟨_, rfl, a⟩
  | _, _, i + 1, v, .cons _ r, h => by
    obtain ⟨d, h1, h2⟩ := TnAll.get (i := i) (v := v) r (by simpa using h)
    exact ⟨d, by simpa using h1, h2⟩
theorem TnAll.strs_inv : ∀ {vs : List V} {zs : List Str}, TnAll K H vs (zs.map PyData.str) → vs = zs.map V.str
  | vs, [], h => by cases h; rfl
  | vs, z :: zs, h => by
    cases h with
    | cons a r => cases a; rw [TnAll.strs_inv r]; rfl
/-- a new tuple -/
theorem Tn.new {p : Addr} {xs : List V} {ds : List PyData} (h : TnAll K H xs ds) (hp : H p = none) : Tn K (upd H p (.tup xs)) (.ref p) (.tuple ds) :=
  .tup (SqT.of upd_same) (TnAll.keep (TK.of_same (Same.new hp _)) h)
end
/-! ### an if whose second way is shown once -/
def tIfC (c : TT) (t u : TS) : TS := fun D σ H => ∃ Mid : Hp → Prop, (c σ H fun b H1 => if b = true then t D σ H1 else Mid H1) ∧ ∀ H1, Mid H1 → u D σ H1
theorem ps_ifC {X : Cx} {c : Expr} {a b : List Stmt} {tc : TT} {t u : TS} {pos : Pos} (hc : PT X c tc) (ha : PSs X a t) (hb : PSs X b u) : PS X (.If c a b pos) (tIfC tc t u) := by
  refine ⟨fun pins s σ H D I h => ?_⟩
  obtain ⟨Mid, h, hu⟩ := h
  refine wpAny_If (thn (hc.run pins s σ H _ I h) fun d s1 ⟨H1, I1, q1⟩ => ?_)
  cases d with
  | true => exact ha.run pins s1 σ H1 D I1 q1
  | false => exact hb.run pins s1 σ H1 D I1 (hu H1 q1)
end Td
/-! The parts of a program. -/
namespace Td
open PySem PySem.Spec PyProof.Rows L2
/-- a list of different names -/
structure Names (ns : List Str) : Prop where
  good : ∀ z ∈ ns, isNm z = true
  nd : ns.Nodup
structure PP where
  words : List Str
  sources : List Str
  derived : List (Str × List Row)
  effects : List (Str × List Row)
def pairD (p : Str × List Row) : PyData := .tuple [.str p.1, .tuple (rowsD p.2)]
def strsD (zs : List Str) : PyData := .tuple (zs.map PyData.str)
def pairsD (ps : List (Str × List Row)) : PyData := .tuple (ps.map pairD)
def PP.data (p : PP) : PyData := .tuple [strsD p.words, strsD p.sources, pairsD p.derived, pairsD p.effects]
def PP.names (p : PP) : List Str := p.sources ++ p.derived.map (·.1) ++ p.effects.map (·.1)
def PP.cells (p : PP) : List Str := p.sources ++ p.derived.map (·.1)
/-- not too many rows; the last of them may be a give or a say beyond the room -/
def Lim (eff : Bool) (most : Nat) (rs : List Row) : Prop := cnts rs ≤ most ∧ ∃ rs0 t, rs = rs0 ++ t ∧ cnts rs0 + 1 ≤ most ∧ (t = [] ∨ ∃ s, t = [if eff then Row.say s else Row.give s])
/-- derived bodies are right, each behind the cells ahead of it -/
def okDer (words sources : List Str) (most : Nat) : List Str → List (Str × List Row) → Prop
  | _, [] => True
  | rd, p :: r => okRs ⟨false, words, sources, rd⟩ 1 p.2 ∧ Lim false most p.2 ∧ okDer words sources most (rd ++ [p.1]) r
def okEff (words sources rd : List Str) (most : Nat) : List (Str × List Row) → Prop
  | [] => True
  | p :: r => okRs ⟨true, words, sources, rd⟩ 1 p.2 ∧ Lim true most p.2 ∧ okEff words sources rd most r
structure PP.Ok (p : PP) (most : Nat) : Prop where
  w2 : 2 ≤ p.words.length
  w4 : p.words.length ≤ 4
  s1 : 1 ≤ p.sources.length
  s4 : p.sources.length ≤ 4
  d6 : p.derived.length ≤ 6
  e4 : p.effects.length ≤ 4
  wn : Names p.words
  nn : Names p.names
  der : okDer p.words p.sources most p.sources p.derived
  eff : okEff p.words p.sources p.cells most p.effects
theorem okDer_snoc {words sources : List Str} {most : Nat} : ∀ {ps : List (Str × List Row)} {rd : List Str} {p : Str × List Row}, okDer words sources most rd ps →
    okRs ⟨false, words, sources, rd ++ ps.map (·.1)⟩ 1 p.2 → Lim false most p.2 → okDer words sources most rd (ps ++ [p])
  | [], rd, p, _, h1, h2 => by
    show okDer words sources most rd [p]
    unfold okDer
    exact ⟨by simpa using h1, h2, by unfold okDer; trivial⟩
  | q :: ps, rd, p, h, h1, h2 => by
    show okDer words sources most rd (q :: (ps ++ [p]))
    unfold okDer at h ⊢
    refine ⟨h.1, h.2.1, okDer_snoc h.2.2 ?_ h2⟩
    simpa using h1
theorem okEff_snoc {words sources rd : List Str} {most : Nat} : ∀ {ps : List (Str × List Row)} {p : Str × List Row}, okEff words sources rd most ps →
    okRs ⟨true, words, sources, rd⟩ 1 p.2 → Lim true most p.2 → okEff words sources rd most (ps ++ [p])
  | [], p, _, h1, h2 => by
    show okEff words sources rd most [p]
    unfold okEff
    exact ⟨h1, h2, by unfold okEff; trivial⟩
  | q :: ps, p, h, h1, h2 => by
    show okEff words sources rd most (q :: (ps ++ [p]))
    unfold okEff at h ⊢
    exact ⟨h.1, h.2.1, okEff_snoc h.2.2 h1 h2⟩
theorem Names.sub {ns ms : List Str} (h : Names ns) (s : ms.Sublist ns) : Names ms := ⟨fun z hz => h.good z (s.subset hz), h.nd.sublist s⟩
/-- the keys of the shape -/
def shp (k c s sl w : V) : List (Key × V) := [(.inr "kind", k), (.inr "cells", c), (.inr "sources", s), (.inr "slots", sl), (.inr "words", w)]
def shp7 (k c s sl w p r : V) : List (Key × V) := [(.inr "kind", k), (.inr "cells", c), (.inr "sources", s), (.inr "slots", sl), (.inr "words", w), (.inr "peeks", p), (.inr "writes", r)]
def shp6 (k c s sl w p : V) : List (Key × V) := [(.inr "kind", k), (.inr "cells", c), (.inr "sources", s), (.inr "slots", sl), (.inr "words", w), (.inr "peeks", p)]
section
variable (k c s sl w p r k' c' p' r' : V)
theorem shp_merge : mergeK [] (shp k c s sl w) = shp k c s sl w := by kernel_rfl
theorem shp_peeks : putK (shp k c s sl w) (.inr "peeks") p = shp6 k c s sl w p := by kernel_rfl
theorem shp_writes : putK (shp6 k c s sl w p) (.inr "writes") r = shp7 k c s sl w p r := by kernel_rfl
theorem shp7_cells : putK (shp7 k c s sl w p r) (.inr "cells") c' = shp7 k c' s sl w p r := by kernel_rfl
theorem shp7_kind : putK (shp7 k c s sl w p r) (.inr "kind") k' = shp7 k' c s sl w p r := by kernel_rfl
theorem shp7_peeks : putK (shp7 k c s sl w p r) (.inr "peeks") p' = shp7 k c s sl w p' r := by kernel_rfl
theorem shp7_writes : putK (shp7 k c s sl w p r) (.inr "writes") r' = shp7 k c s sl w p r' := by kernel_rfl
theorem get_words : valV (shp7 k c s sl w p r) (.inr "words") = some w := by kernel_rfl
theorem get_slots : valV (shp7 k c s sl w p r) (.inr "slots") = some sl := by kernel_rfl
theorem get_cells : valV (shp7 k c s sl w p r) (.inr "cells") = some c := by kernel_rfl
theorem get_sources : valV (shp7 k c s sl w p r) (.inr "sources") = some s := by kernel_rfl
theorem get_kind : valV (shp7 k c s sl w p r) (.inr "kind") = some k := by kernel_rfl
theorem get_peeks : valV (shp7 k c s sl w p r) (.inr "peeks") = some p := by kernel_rfl
theorem get_writes : valV (shp7 k c s sl w p r) (.inr "writes") = some r := by kernel_rfl
end
theorem inV_strs (z : Str) (ws : List Str) : inV (.str z) (ws.map V.str) = decide (z ∈ ws) := by
  induction ws with
  | nil => rfl
  | cons y r ih =>
    show (eqV (.str y) (.str z) || inV (.str z) (r.map V.str)) = _
    rw [ih]
    have e : eqV (.str y) (.str z) = decide (z = y) := by
      show (_ : Bool) = _
      by_cases h : z = y
      · subst h; simp [eqV]
      · simp [eqV, h]
        intro h'; exact h h'.symm
    rw [e]
    simp
theorem flat_strs (ws : List Str) : (ws.map V.str).all flatV = true := by
  rw [List.all_eq_true]; intro y hy; obtain ⟨u, _, rfl⟩ := List.mem_map.mp hy; rfl
theorem cut_from1 (xs : List V) : cutV xs (some 1) none = xs.drop 1 := by
  unfold cutV
  rw [HT.sIx_none, show HT.sIx xs.length 0 (some 1) = min 1 xs.length from HT.sIx_nat _ _ 1]
  rcases xs with _ | ⟨x, r⟩
  · rfl
  · show ((x :: r).drop (min 1 (r.length + 1))).take ((r.length + 1) - min 1 (r.length + 1)) = _
    rw [show min 1 (r.length + 1) = 1 by omega]
    simp
theorem cut_to (xs : List V) (k : Nat) (h : k ≤ xs.length) : cutV xs none (some (k : Int)) = xs.take k := by
  unfold cutV
  rw [HT.sIx_none, HT.sIx_nat, List.drop_zero, Nat.sub_zero, Nat.min_eq_left h]
theorem not_whole1 {xs : List V} (h : xs ≠ []) (hi : Option Int) : ¬ (HT.sIx xs.length 0 (some 1) = 0 ∧ HT.sIx xs.length xs.length hi = xs.length) := by
  rintro ⟨e, _⟩
  rw [show HT.sIx xs.length 0 (some 1) = min 1 xs.length from HT.sIx_nat _ _ 1] at e
  have := List.length_pos_iff.mpr h
  omega
/-- the words with another one at the end -/
theorem Names.turn {ws : List Str} {z : Str} (h : Names ws) (hz : isNm z = true) (hn : z ∉ ws) : Names (ws.drop 1 ++ [z]) := by
  refine ⟨fun y hy => ?_, ?_⟩
  · rcases List.mem_append.mp hy with q | q
    · exact h.good y (List.mem_of_mem_drop q)
    · rw [List.mem_singleton.mp q]; exact hz
  · refine List.nodup_append.mpr ⟨h.nd.sublist (List.drop_sublist 1 ws), by simp, fun a ha b hb e => ?_⟩
    have : b = z := by simpa using hb
    subst this
    subst e
    exact hn (List.mem_of_mem_drop ha)
end Td
/-! Loops over texts and enumerated tuples; a call of one of several defs. -/
namespace Td
open PySem PySem.Spec PyProof.Rows L2
theorem tYes_of {σ : L2.St} {H : Hp} {A B : Hp → Prop} (h : A H) : tYes σ H (fun b H3 => if b = true then A H3 else B H3) := by
  show (if true = true then A H else B H)
  exact iteT h
theorem lc_str {z : Str} {g : TG} {tt : TT} {te : TE} {vs : List Nat} {σ : L2.St} {H1 : Hp} {D : Addr} {Qd : Hp → Prop} (Pv : Nat → Hp → Prop) (h0 : Pv 0 (upd H1 D (.lst [])))
    (hs : ∀ (i c : Nat) (H : Hp), z.cps[i]? = some c → Pv i H → g (.str ⟨#[c]⟩) (wipe σ vs) H fun σ2 H2 => wipe σ2 vs = wipe σ vs ∧ tt σ2 H2 fun b H3 =>
      if b = true then te σ2 H3 fun y H4 => ∃ acc, H4 D = some (.lst acc) ∧ acc.length < sizeLine ∧ Pv (i + 1) (upd H4 D (.lst (acc ++ [y]))) else Pv (i + 1) H3) (hd : ∀ H, Pv z.cps.size H → Qd H) :
    ∃ W : Nat → Nat → Hp → Prop, (∃ m, W 0 m (upd H1 D (.lst []))) ∧ ∀ i m H, W i m H →
      ((Its z).stop i H ∧ Qd H) ∨ ((Its z).go i H ∧ ∃ Nx : Hp → Prop, (∀ H', Nx H' → ∃ m', m' < m ∧ W (i + 1) m' H') ∧ ∀ x H', (Its z).yld i H x H' → g x (wipe σ vs) H' fun σ2 H2 => wipe σ2 vs = wipe σ vs ∧ tt σ2 H2 fun b H3 =>
        if b = true then te σ2 H3 fun y H4 => ∃ acc, H4 D = some (.lst acc) ∧ acc.length < sizeLine ∧ Nx (upd H4 D (.lst (acc ++ [y]))) else Nx H3) := by
  refine ⟨fun i m H => m = z.cps.size - i ∧ i ≤ z.cps.size ∧ Pv i H, ⟨z.cps.size, by simp, Nat.zero_le _, h0⟩, ?_⟩
  rintro i m H ⟨rfl, hi, p⟩
  by_cases hlt : i < z.cps.size
  · refine .inr ⟨hlt, Pv (i + 1), fun H' p' => ⟨z.cps.size - (i + 1), by omega, rfl, hlt, p'⟩, fun x H' y => ?_⟩
    obtain ⟨e, c, hc, ex⟩ := y
    subst e
    subst ex
    exact hs i c _ hc p
  · have e : i = z.cps.size := by omega
    subst e
    exact .inl ⟨Nat.le_refl _, hd H p⟩
theorem for_enumT {K : PySem.W.Frag} {a : Addr} {xs : List V} {g : TG} {tb : TS} {D : Ends} {σ : L2.St} {H : Hp} (Pv : Nat → L2.St → Hp → Prop) (h0 : Pv 0 σ H) (hl : ∀ i σ H, i ≤ xs.length → Pv i σ H → SqT K H a xs)
    (hs : ∀ (i : Nat) (x : V) (σ : L2.St) (H : Hp) (T : Addr), xs[i]? = some x → Pv i σ H → H T = none → g (.ref T) σ (upd H T (.tup [.int (i : Nat), x])) fun σ2 H2 => tb { D with nx := Pv (i + 1), ct := Pv (i + 1), bk := D.nx } σ2 H2)
    (hd : ∀ σ H, Pv xs.length σ H → D.nx σ H) :
    ∃ W : Nat → Nat → L2.St → Hp → Prop, (∃ m, W 0 m σ H) ∧ ∀ i m σ H, W i m σ H →
      ((IteT K a).stop i H ∧ D.nx σ H) ∨ ((IteT K a).go i H ∧ ∃ N : L2.St → Hp → Prop, (∀ σ' H', N σ' H' → ∃ m', m' < m ∧ W (i + 1) m' σ' H') ∧
        ∀ x H', (IteT K a).yld i H x H' → g x σ H' fun σ2 H2 => tb { D with nx := N, ct := N, bk := D.nx } σ2 H2) := by
  refine ⟨fun i m σ H => m = xs.length - i ∧ i ≤ xs.length ∧ Pv i σ H, ⟨xs.length, by simp, Nat.zero_le _, h0⟩, ?_⟩
  rintro i m σ H ⟨rfl, hi, p⟩
  have q := hl i σ H hi p
  by_cases hlt : i < xs.length
  · refine .inr ⟨⟨xs, xs[i], q, by simp [hlt]⟩, Pv (i + 1), fun σ' H' p' => ⟨xs.length - (i + 1), by omega, rfl, hlt, p'⟩, fun x H' y => ?_⟩
    obtain ⟨T, u, ex, hT, eH, hu⟩ := y
    subst ex
    subst eH
    exact hs i u σ H T (hu xs q) p hT
  · have e : i = xs.length := by omega
    subst e
    exact .inl ⟨⟨xs, q, rfl⟩, hd σ H p⟩
/-- a call of a local name that holds one of several defs -/
def tCallR (i : Nat) (S : Addr → Sp → Prop) (t : TA) : TE := fun σ H Q => ∃ f sp, σ[i]? = some (some (.ref f)) ∧ S f sp ∧ t σ H fun vs H1 => sp vs H1 Q (fun _ _ _ => False)
section
variable {X : Cx} {k i : Nat} {x : Str} {p pos : Pos} {e : Expr} {es : List Expr} {t : TA}
theorem pe_callR {S : Addr → Sp → Prop} (A : ∀ f sp, S f sp → Held X.prog X.w X.K X.mg X.base k f sp) (hr : Room k X.A) (hN : X.N[i]? = some x) (hv : Vis X.env.scope x) (ha : PA X (e :: es) t)
    (hdb : (x == ("__debug__" : Str)) = false := by decide) (hcd : (x == ("__classdict__" : Str)) = false := by decide)
    (he : starEach (e :: es) X.env = (false, eval e X.env) :: starEach es X.env := by rfl) (hpl : (backTo pos (starEach es X.env)).any (·.1) = false := by rfl) :
    PE X (.Call (.Name x p) (e :: es) [] pos) (tCallR i S t) := by
  refine ⟨fun pins s σ H Q I h => ?_⟩
  obtain ⟨f, sp, h1, h2, h3⟩ := h
  exact (pe_callA (S := fun g => if g = f then some sp else none) (fun g sp' h => by
    split at h
    · rename_i e1
      cases h
      rw [e1]
      exact A f sp h2
    · cases h) hr hN hv ha hdb hcd he hpl).run pins s σ H Q I ⟨f, sp, h1, if_pos rfl, h3⟩
end
end Td
/-! What a true run does. -/
namespace Td
open PySem PySem.Spec PyProof.Rows L2
abbrev Env := List (Str × Str)
def kv (L : Env) : List (Key × V) := L.map fun p => (.inr p.1, V.str p.2)
def getE (L : Env) (k : Str) : Option Str := (L.find? fun p => decide (p.1 = k)).map (·.2)
def putE (L : Env) (k v : Str) : Env := if (L.any fun p => decide (p.1 = k)) = true then L.map (fun p => if p.1 = k then (p.1, v) else p) else L ++ [(k, v)]
def sdE (L : Env) (k v : Str) : Env := if (getE L k).isSome = true then L else putE L k v
theorem kv_len (L : Env) : (kv L).length = L.length := List.length_map _
theorem inr_iff (a b : Str) : (Sum.inr a : Key) = .inr b ↔ a = b := ⟨fun h => Sum.inr.inj h, fun h => by rw [h]⟩
theorem kv_get (L : Env) (k : Str) : valV (kv L) (.inr k : Key) = (getE L k).map V.str := by
  unfold valV getE kv
  induction L with
  | nil => rfl
  | cons p r ih =>
    rw [List.map_cons, List.find?_cons, List.find?_cons]
    by_cases h : p.1 = k
    · simp [h]
    · have h2 : ¬ ((Sum.inr p.1 : Key) = .inr k) := fun e => h (Sum.inr.inj e)
      simp only [decide_eq_false h, decide_eq_false h2]
      exact ih
theorem kv_any (L : Env) (k : Str) : ((kv L).any fun q => decide (q.1 = (.inr k : Key))) = L.any fun p => decide (p.1 = k) := by
  unfold kv
  induction L with
  | nil => rfl
  | cons p r ih =>
    rw [List.map_cons, List.any_cons, List.any_cons, ih]
    congr 1
    exact decide_eq_decide.mpr (inr_iff _ _)
theorem kv_put (L : Env) (k v : Str) : putK (kv L) (.inr k : Key) (.str v) = kv (putE L k v) := by
  unfold putK putE
  rw [kv_any]
  by_cases h : (L.any fun p => decide (p.1 = k)) = true
  · rw [if_pos h, if_pos h]
    unfold kv
    rw [List.map_map, List.map_map]
    refine List.map_congr_left fun p _ => ?_
    show (if (Sum.inr p.1 : Key) = .inr k then _ else _) = _
    by_cases e : p.1 = k
    · have e2 : (Sum.inr p.1 : Key) = .inr k := by rw [e]
      rw [if_pos e2]
      show _ = ((Sum.inr (if p.1 = k then (p.1, v) else p).1 : Key), V.str (if p.1 = k then (p.1, v) else p).2)
      rw [if_pos e]
    · have e2 : ¬ (Sum.inr p.1 : Key) = .inr k := fun h => e (Sum.inr.inj h)
      rw [if_neg e2]
      show _ = ((Sum.inr (if p.1 = k then (p.1, v) else p).1 : Key), V.str (if p.1 = k then (p.1, v) else p).2)
      rw [if_neg e]
  · rw [if_neg h, if_neg h]
    unfold kv
    rw [List.map_append]
    rfl
theorem putE_len (L : Env) (k v : Str) : (putE L k v).length ≤ L.length + 1 := by
  unfold putE
  split
  · rw [List.length_map]; omega
  · rw [List.length_append]; exact Nat.le_refl _
theorem sdE_len (L : Env) (k v : Str) : (sdE L k v).length ≤ L.length + 1 := by
  unfold sdE
  split
  · omega
  · exact putE_len ..
theorem getE_any (k : Str) : ∀ L : Env, (L.any fun p => decide (p.1 = k)) = (getE L k).isSome
  | [] => rfl
  | p :: r => by
    rw [List.any_cons]
    unfold getE
    rw [List.find?_cons]
    by_cases e : p.1 = k
    · simp [e]
    · simp only [decide_eq_false e, Bool.false_or]
      exact getE_any k r
theorem getE_cons (p : Str × Str) (r : Env) (k : Str) : getE (p :: r) k = if p.1 = k then some p.2 else getE r k := by
  unfold getE
  rw [List.find?_cons]
  by_cases e : p.1 = k
  · simp [e]
  · simp [e]
theorem getE_put (L : Env) (k v j : Str) : getE (putE L k v) j = if j = k then some v else getE L j := by
  unfold putE
  split
  · rename_i h
    induction L with
    | nil => simp at h
    | cons p r ih =>
      rw [List.map_cons, getE_cons, getE_cons]
      by_cases e : p.1 = k
      · rw [if_pos e]
        by_cases ej : j = k
        · subst ej; simp [e]
        · have : ¬ p.1 = j := fun h => ej (by rw [← h, e])
          rw [if_neg this, if_neg this, if_neg ej]
          by_cases hr : (r.any fun p => decide (p.1 = k)) = true
          · rw [ih hr, if_neg ej]
          · have hr2 : r.map (fun p => if p.1 = k then (p.1, v) else p) = r := by
              conv => rhs; rw [← List.map_id r]
              refine List.map_congr_left fun q hq => ?_
              rw [if_neg]
              · rfl
              · intro e2
                exact hr (List.any_eq_true.mpr ⟨q, hq, decide_eq_true e2⟩)
            rw [hr2]
      · rw [if_neg e]
        have hr : (r.any fun p => decide (p.1 = k)) = true := by
          rw [List.any_cons, decide_eq_false e, Bool.false_or] at h
          exact h
        rw [ih hr]
        by_cases ej : p.1 = j
        · rw [if_pos ej, if_pos ej, if_neg (fun h => e (by rw [ej, h]))]
        · rw [if_neg ej, if_neg ej]
  · rename_i h
    have hn : getE L k = none := by
      rw [getE_any] at h
      cases e : getE L k with
      | none => rfl
      | some z => rw [e] at h; exact absurd rfl h
    induction L with
    | nil => rw [List.nil_append, getE_cons]; by_cases ej : j = k
             · subst ej; simp
             · rw [if_neg (fun e => ej e.symm), if_neg ej]
    | cons p r ih =>
      rw [List.cons_append, getE_cons, getE_cons]
      rw [getE_cons] at hn
      by_cases e : p.1 = k
      · rw [if_pos e] at hn; cases hn
      · rw [if_neg e] at hn
        have hr : ¬ (r.any fun p => decide (p.1 = k)) = true := by rw [getE_any, hn]; simp
        rw [ih hr hn]
        by_cases ej : p.1 = j
        · rw [if_pos ej, if_pos ej, if_neg (fun h => e (by rw [ej, h]))]
        · rw [if_neg ej, if_neg ej]
/-! ### a run -/
structure RS where
  slots : Env
  noted : Env
  peeked : Env
  said : List Str
  written : Env
  given : Str
def RS.word (st : RS) (d s : Str) : Str := (getE st.slots s).getD d
mutual
def runR (kn : Str → Str) (d : Str) : Row → RS → RS × Bool
  | .rd pk c s, st => ({ st with slots := putE st.slots s (kn c), noted := (if pk then st.noted else sdE st.noted c (kn c)), peeked := (if pk then sdE st.peeked c (kn c) else st.peeked) }, false)
  | .put s u, st => ({ st with slots := putE st.slots s u }, false)
  | .give s, st => ({ st with given := st.word d s }, true)
  | .say s, st => ({ st with said := st.said ++ [st.word d s] }, false)
  | .wr c s, st => ({ st with written := st.written ++ [(c, st.word d s)] }, false)
  | .ite s u y n, st => if st.word d s = u then runRs kn d y st else runRs kn d n st
def runRs (kn : Str → Str) (d : Str) : List Row → RS → RS × Bool
  | [], st => (st, false)
  | r :: rs, st => if (runR kn d r st).2 = true then ((runR kn d r st).1, true) else runRs kn d rs (runR kn d r st).1
end
theorem runRs_yes {kn : Str → Str} {d : Str} {r : Row} {st : RS} (rs : List Row) (h : (runR kn d r st).2 = true) : runRs kn d (r :: rs) st = ((runR kn d r st).1, true) := by simp only [runRs, if_pos h]
theorem runRs_no {kn : Str → Str} {d : Str} {r : Row} {st : RS} (rs : List Row) (h : ¬ (runR kn d r st).2 = true) : runRs kn d (r :: rs) st = runRs kn d rs (runR kn d r st).1 := by simp only [runRs, if_neg h]
theorem runRs_append (kn : Str → Str) (d : Str) : ∀ (rs ts : List Row) (st : RS), runRs kn d (rs ++ ts) st = if (runRs kn d rs st).2 = true then runRs kn d rs st else runRs kn d ts (runRs kn d rs st).1
  | [], ts, st => by
    show runRs kn d ts st = _
    simp [runRs]
  | r :: rs, ts, st => by
    show runRs kn d (r :: (rs ++ ts)) st = _
    by_cases h : (runR kn d r st).2 = true
    · simp only [runRs_yes _ h, if_true]
    · simp only [runRs_no _ h]
      exact runRs_append kn d rs ts _
theorem runRs_next {kn : Str → Str} {d : Str} {rs : List Row} {st : RS} {i : Nat} {r : Row} (h : rs[i]? = some r) (hf : (runRs kn d (rs.take i) st).2 = false) :
    runRs kn d (rs.take (i + 1)) st = runR kn d r (runRs kn d (rs.take i) st).1 := by
  rw [take_more h, runRs_append, hf]
  simp only [runRs, if_neg (Bool.false_ne_true)]
  by_cases h2 : (runR kn d r (runRs kn d (rs.take i) st).1).2 = true
  · rw [if_pos h2]
    exact Prod.ext rfl h2.symm
  · rw [if_neg h2]
    exact Prod.ext rfl (by simpa using h2)
theorem runRs_stop {kn : Str → Str} {d : Str} {rs : List Row} {st : RS} {i : Nat} {r : Row} (h : rs[i]? = some r) (hf : (runRs kn d (rs.take i) st).2 = false)
    (ht : (runR kn d r (runRs kn d (rs.take i) st).1).2 = true) : runRs kn d rs st = runR kn d r (runRs kn d (rs.take i) st).1 := by
  have e : rs = rs.take (i + 1) ++ rs.drop (i + 1) := (List.take_append_drop _ _).symm
  have e2 := runRs_next h hf
  rw [e, runRs_append, ← e, e2, if_pos ht]
/-- no list of the run is long -/
structure RS.Few (st : RS) (n : Nat) : Prop where
  sl : st.slots.length ≤ n
  no : st.noted.length ≤ n
  pe : st.peeked.length ≤ n
  sa : st.said.length ≤ n
  wr : st.written.length ≤ n
theorem RS.Few.mono {st : RS} {n m : Nat} (h : st.Few n) (l : n ≤ m) : st.Few m := ⟨Nat.le_trans h.sl l, Nat.le_trans h.no l, Nat.le_trans h.pe l, Nat.le_trans h.sa l, Nat.le_trans h.wr l⟩
mutual
theorem few_R (kn : Str → Str) (d : Str) : ∀ (r : Row) (st : RS) (n : Nat), st.Few n → (runR kn d r st).1.Few (n + Td.cnt r)
  | .rd pk c s, st, n, h => by
    have h1 := putE_len st.slots s (kn c)
    have h2 := sdE_len st.noted c (kn c)
    have h3 := sdE_len st.peeked c (kn c)
    have a := h.sl; have b := h.no; have c' := h.pe; have d' := h.sa; have e := h.wr
    cases pk <;> simp only [runR, Td.cnt] <;> refine ⟨?_, ?_, ?_, ?_, ?_⟩ <;> simp <;> omega
  | .put s u, st, n, h => by
    have h1 := putE_len st.slots s u
    have a := h.sl; have b := h.no; have c' := h.pe; have d' := h.sa; have e := h.wr
    simp only [runR, Td.cnt]; refine ⟨?_, ?_, ?_, ?_, ?_⟩ <;> simp <;> omega
  | .give s, st, n, h => by
    have a := h.sl; have b := h.no; have c' := h.pe; have d' := h.sa; have e := h.wr
    simp only [runR, Td.cnt]; refine ⟨?_, ?_, ?_, ?_, ?_⟩ <;> simp <;> omega
  | .say s, st, n, h => by
    have a := h.sl; have b := h.no; have c' := h.pe; have d' := h.sa; have e := h.wr
    simp only [runR, Td.cnt]; refine ⟨?_, ?_, ?_, ?_, ?_⟩ <;> simp <;> omega
  | .wr c s, st, n, h => by
    have a := h.sl; have b := h.no; have c' := h.pe; have d' := h.sa; have e := h.wr
    simp only [runR, Td.cnt]; refine ⟨?_, ?_, ?_, ?_, ?_⟩ <;> simp <;> omega
  | .ite s u y m, st, n, h => by
    simp only [runR, Td.cnt]
    split
    · exact (few_Rs kn d y st n h).mono (by omega)
    · exact (few_Rs kn d m st n h).mono (by omega)
theorem few_Rs (kn : Str → Str) (d : Str) : ∀ (rs : List Row) (st : RS) (n : Nat), st.Few n → (runRs kn d rs st).1.Few (n + cnts rs)
  | [], st, n, h => by simp only [runRs]; exact h.mono (Nat.le_add_right _ _)
  | r :: rs, st, n, h => by
    have h1 := few_R kn d r st n h
    simp only [runRs, cnts]
    split
    · exact h1.mono (by omega)
    · exact (few_Rs kn d rs _ _ h1).mono (by omega)
end
/-! ### the run's object -/
structure RA where
  ra : Addr
  kd : Addr
  ps : Addr
  pn : Addr
  pp : Addr
  pd : Addr
  pw : Addr
  d : Str
def RA.fldsV (A : RA) (v : V) : List (Str × V) := [("noted", .ref A.pn), ("peeked", .ref A.pp), ("said", .ref A.pd), ("written", .ref A.pw), ("given", v), ("default", .str A.d), ("known", .ref A.kd), ("slots", .ref A.ps)]
def RA.flds (A : RA) (g : Str) : List (Str × V) := A.fldsV (.str g)
def wrD (p : Str × Str) : PyData := .tuple [.str p.1, .str p.2]
structure RunAt (K : PySem.W.Frag) (C : Addr) (A : RA) (H0 H : Hp) (st : RS) : Prop where
  same : Same H0 H
  f0 : H0 A.ra = none
  f1 : H0 A.ps = none
  f2 : H0 A.pn = none
  f3 : H0 A.pp = none
  f4 : H0 A.pd = none
  f5 : H0 A.pw = none
  n1 : A.ps ≠ A.pn
  n2 : A.ps ≠ A.pp
  n3 : A.pn ≠ A.pp
  n4 : A.pd ≠ A.pw
  ob : ∃ dx, H A.ra = some (.ins C dx (A.flds st.given))
  sl : H A.ps = some (.dK (kv st.slots))
  no : H A.pn = some (.dK (kv st.noted))
  pe : H A.pp = some (.dK (kv st.peeked))
  sa : H A.pd = some (.lst (st.said.map V.str))
  wr : ∃ xs, H A.pw = some (.lst xs) ∧ TnAll K H xs (st.written.map wrD)
section
variable {K : PySem.W.Frag} {C : Addr} {A : RA} {H0 H H' : Hp} {st : RS}
theorem own_same {H0 H : Hp} {p : Addr} {o : HO} (k : Same H0 H) (h : H0 p = none) : Same H0 (upd H p o) := fun b u e => by
  rw [upd_ne (ne_of_none e h)]; exact k b u e
theorem RunAt.go (h : RunAt K C A H0 H st) (s : Same H H') : RunAt K C A H0 H' st := by
  obtain ⟨dx, e⟩ := h.ob
  obtain ⟨xs, e1, e2⟩ := h.wr
  exact ⟨h.same.trans s, h.f0, h.f1, h.f2, h.f3, h.f4, h.f5, h.n1, h.n2, h.n3, h.n4, ⟨dx, s _ _ e⟩, s _ _ h.sl, s _ _ h.no, s _ _ h.pe, s _ _ h.sa, ⟨xs, s _ _ e1, TnAll.keep (TK.of_same s) e2⟩⟩
theorem RunAt.slots (h : RunAt K C A H0 H st) (L : Env) : RunAt K C A H0 (upd H A.ps (.dK (kv L))) { st with slots := L } := by
  obtain ⟨dx, e⟩ := h.ob
  obtain ⟨xs, e1, e2⟩ := h.wr
  exact ⟨own_same h.same h.f1, h.f0, h.f1, h.f2, h.f3, h.f4, h.f5, h.n1, h.n2, h.n3, h.n4, ⟨dx, by rw [upd_ne (ne_of e h.sl (by intro z; cases z))]; exact e⟩, upd_same, by rw [upd_ne (Ne.symm h.n1)]; exact h.no, by rw [upd_ne (Ne.symm h.n2)]; exact h.pe,
    by rw [upd_ne (ne_of h.sa h.sl (by intro z; cases z))]; exact h.sa, ⟨xs, by rw [upd_ne (ne_of e1 h.sl (by intro z; cases z))]; exact e1, TnAll.keep (TK.upd (by rw [h.sl]; trivial)) e2⟩⟩
theorem RunAt.noted (h : RunAt K C A H0 H st) (L : Env) : RunAt K C A H0 (upd H A.pn (.dK (kv L))) { st with noted := L } := by
  obtain ⟨dx, e⟩ := h.ob
  obtain ⟨xs, e1, e2⟩ := h.wr
  exact ⟨own_same h.same h.f2, h.f0, h.f1, h.f2, h.f3, h.f4, h.f5, h.n1, h.n2, h.n3, h.n4, ⟨dx, by rw [upd_ne (ne_of e h.no (by intro z; cases z))]; exact e⟩, by rw [upd_ne h.n1]; exact h.sl, upd_same, by rw [upd_ne (Ne.symm h.n3)]; exact h.pe,
    by rw [upd_ne (ne_of h.sa h.no (by intro z; cases z))]; exact h.sa, ⟨xs, by rw [upd_ne (ne_of e1 h.no (by intro z; cases z))]; exact e1, TnAll.keep (TK.upd (by rw [h.no]; trivial)) e2⟩⟩
theorem RunAt.peeked (h : RunAt K C A H0 H st) (L : Env) : RunAt K C A H0 (upd H A.pp (.dK (kv L))) { st with peeked := L } := by
  obtain ⟨dx, e⟩ := h.ob
  obtain ⟨xs, e1, e2⟩ := h.wr
  exact ⟨own_same h.same h.f3, h.f0, h.f1, h.f2, h.f3, h.f4, h.f5, h.n1, h.n2, h.n3, h.n4, ⟨dx, by rw [upd_ne (ne_of e h.pe (by intro z; cases z))]; exact e⟩, by rw [upd_ne h.n2]; exact h.sl, by rw [upd_ne h.n3]; exact h.no, upd_same,
    by rw [upd_ne (ne_of h.sa h.pe (by intro z; cases z))]; exact h.sa, ⟨xs, by rw [upd_ne (ne_of e1 h.pe (by intro z; cases z))]; exact e1, TnAll.keep (TK.upd (by rw [h.pe]; trivial)) e2⟩⟩
theorem RunAt.say (h : RunAt K C A H0 H st) (L : List Str) : RunAt K C A H0 (upd H A.pd (.lst (L.map V.str))) { st with said := L } := by
  obtain ⟨dx, e⟩ := h.ob
  obtain ⟨xs, e1, e2⟩ := h.wr
  exact ⟨own_same h.same h.f4, h.f0, h.f1, h.f2, h.f3, h.f4, h.f5, h.n1, h.n2, h.n3, h.n4, ⟨dx, by rw [upd_ne (ne_of e h.sa (by intro z; cases z))]; exact e⟩, by rw [upd_ne (ne_of h.sl h.sa (by intro z; cases z))]; exact h.sl, by rw [upd_ne (ne_of h.no h.sa (by intro z; cases z))]; exact h.no,
    by rw [upd_ne (ne_of h.pe h.sa (by intro z; cases z))]; exact h.pe, upd_same, ⟨xs, by rw [upd_ne (Ne.symm h.n4)]; exact e1, TnAll.keep (TK.upd (by rw [h.sa]; trivial)) e2⟩⟩
theorem RunAt.write (h : RunAt K C A H0 H st) {xs : List V} {L : Env} (e1 : H A.pw = some (.lst xs)) {ys : List V} (e2 : TnAll K H ys (L.map wrD)) : RunAt K C A H0 (upd H A.pw (.lst ys)) { st with written := L } := by
  obtain ⟨dx, e⟩ := h.ob
  exact ⟨own_same h.same h.f5, h.f0, h.f1, h.f2, h.f3, h.f4, h.f5, h.n1, h.n2, h.n3, h.n4, ⟨dx, by rw [upd_ne (ne_of e e1 (by intro z; cases z))]; exact e⟩, by rw [upd_ne (ne_of h.sl e1 (by intro z; cases z))]; exact h.sl, by rw [upd_ne (ne_of h.no e1 (by intro z; cases z))]; exact h.no,
    by rw [upd_ne (ne_of h.pe e1 (by intro z; cases z))]; exact h.pe, by rw [upd_ne h.n4]; exact h.sa, ⟨ys, upd_same, TnAll.keep (TK.upd (by rw [e1]; trivial)) e2⟩⟩
theorem RunAt.give (h : RunAt K C A H0 H st) (g : Str) {dx : Addr} (e : H A.ra = some (.ins C dx (A.flds st.given))) : RunAt K C A H0 (upd H A.ra (.ins C dx (A.flds g))) { st with given := g } := by
  obtain ⟨xs, e1, e2⟩ := h.wr
  exact ⟨own_same h.same h.f0, h.f0, h.f1, h.f2, h.f3, h.f4, h.f5, h.n1, h.n2, h.n3, h.n4, ⟨dx, upd_same⟩, by rw [upd_ne (ne_of h.sl e (by intro z; cases z))]; exact h.sl, by rw [upd_ne (ne_of h.no e (by intro z; cases z))]; exact h.no,
    by rw [upd_ne (ne_of h.pe e (by intro z; cases z))]; exact h.pe, by rw [upd_ne (ne_of h.sa e (by intro z; cases z))]; exact h.sa, ⟨xs, by rw [upd_ne (ne_of e1 e (by intro z; cases z))]; exact e1, TnAll.keep (TK.upd (by rw [e]; trivial)) e2⟩⟩
end
section
variable (A : RA) (g g' : Str)
theorem fl_default : (A.flds g).lookup ("default" : Str) = some (.str A.d) := by kernel_rfl
theorem fl_known : (A.flds g).lookup ("known" : Str) = some (.ref A.kd) := by kernel_rfl
theorem fl_slots : (A.flds g).lookup ("slots" : Str) = some (.ref A.ps) := by kernel_rfl
theorem fl_noted : (A.flds g).lookup ("noted" : Str) = some (.ref A.pn) := by kernel_rfl
theorem fl_peeked : (A.flds g).lookup ("peeked" : Str) = some (.ref A.pp) := by kernel_rfl
theorem fl_said : (A.flds g).lookup ("said" : Str) = some (.ref A.pd) := by kernel_rfl
theorem fl_written : (A.flds g).lookup ("written" : Str) = some (.ref A.pw) := by kernel_rfl
theorem fl_given : (A.flds g).lookup ("given" : Str) = some (.str g) := by kernel_rfl
theorem fl_none : (A.flds g).lookup ("word_in" : Str) = none := by kernel_rfl
theorem fl_none2 (v : V) : (A.fldsV v).lookup ("parts" : Str) = none := by kernel_rfl
theorem fv_noted (v : V) : (A.fldsV v).lookup ("noted" : Str) = some (.ref A.pn) := by kernel_rfl
theorem fv_peeked (v : V) : (A.fldsV v).lookup ("peeked" : Str) = some (.ref A.pp) := by kernel_rfl
theorem fv_said (v : V) : (A.fldsV v).lookup ("said" : Str) = some (.ref A.pd) := by kernel_rfl
theorem fv_written (v : V) : (A.fldsV v).lookup ("written" : Str) = some (.ref A.pw) := by kernel_rfl
theorem fv_given (v : V) : (A.fldsV v).lookup ("given" : Str) = some v := by kernel_rfl
theorem fl_giveV (v : V) : putF "given" v (A.flds g) = A.fldsV v := by kernel_rfl
theorem fl_give : putF "given" (.str g') (A.flds g) = A.flds g' := by kernel_rfl
end
end Td
/-! dict(zip(t, u)) of two tuples as long as each other. -/
namespace Td
open PySem
section
variable {prog : Program} {w : World} {A : Around} {E : Value → Shared → Prop} {s : Shared} {z TI TO T i1 i2 : Addr} {f : Bool} {oT : Obj} {fp1 fp2 : List Addr} {n1 n2 i : Nat} {P1 P2 : Nat → Value → Prop} {St1 St2 : Nat → Heap → Prop}
/-- the next pair, the one ahead still held -/
theorem held_item {Q : Value → Shared → Prop} (S : ZipSep2 z TI TO i1 i2 fp1 fp2) (D1 : Draws prog w A i1 fp1 n1 P1 St1) (D2 : Draws prog w A i2 fp2 n2 P2 St2)
    (hz : IsZipHeld s.heap z TI TO T f) (hT : s.heap.get? T = some oT) (hTI : IsTupOf2 s.heap TI (.ref i1) (.ref i2)) (u1 : St1 i s.heap) (u2 : St2 i s.heap) (l1 : i < n1) (l2 : i < n2)
    (hQ : ∀ x y h' tk, P1 i x → P2 i y → IsZipHeld h' z TI TO T true → St1 (i + 1) h' → St2 (i + 1) h' → IsTupOf2 h' s.heap.objs.size x y →
      (∀ c o, c ≠ z → c ≠ i1 → c ≠ i2 → s.heap.get? c = some o → h'.get? c = some o) → Q (.ref s.heap.objs.size) { s with heap := h', toks := tk }) :
    wpAny (model prog w) A (Builtin.«zip.__next__» ⟨[.ref z], []⟩) (fun fin s' => ∃ v, fin = .done (.ret v) ∧ Q v s') E s := by
  obtain ⟨h0, gl, dd, t0, ow⟩ := s
  show wpAny _ _ (field (.ref z) 2 >>= _) _ _ _
  refine wpAny_bind (wpAny_field hz rfl (x := .bool false) rfl ?_)
  show wpAny _ _ (field (.ref z) 3 >>= _) _ _ _
  refine wpAny_bind (wpAny_field hz rfl (x := .ref TI) rfl (wpAny_bind (wpAny_seqItems hTI rfl ?_)))
  show wpAny _ _ (Builtin.SmallTypes.ownedTupleIsFree (.ref z) >>= _) _ _ _
  refine wpAny_bind (wpAny_tupleHeld_zip hz hT fun h1 z1 k1 => ?_)
  replace k1 : Heap.SameBut z h0 h1 := k1
  simp only [Bool.false_eq_true, if_false]
  refine wpAny_bind ?_
  rw [← Array.forIn_toList]
  simp only [List.forIn_cons, List.forIn_nil]
  refine wpAny_bind (wpAny_bind (wpAny_holding ?_))
  show wpAny _ _ (Builtin.SmallTypes.nextOf (.ref i1) >>= _) _ _ ⟨h1, gl, dd, t0, ow⟩
  refine wpAny_bind (D1.item i _ _ _ l1 (D1.over u1 k1 S.zf1) fun x h2 t2 px v1 k2 => wpAny_pure (wpAny_pure ?_))
  replace k2 : Heap.SameBut i1 h1 h2 := k2
  refine wpAny_bind (wpAny_bind (wpAny_holding ?_))
  show wpAny _ _ (Builtin.SmallTypes.nextOf (.ref i2) >>= _) _ _ ⟨h2, gl, dd, t2, ow⟩
  refine wpAny_bind (D2.item i _ _ _ l2 (D2.over (D2.over u2 k1 S.zf2) k2 S.sep1_2) fun y h3 t3 py v2 k3 => wpAny_pure (wpAny_pure (wpAny_pure ?_)))
  replace k3 : Heap.SameBut i2 h2 h3 := k3
  show wpAny _ _ (newTuple [x, y] >>= _) _ _ _
  refine wpAny_bind (wpAny_newTuple ?_)
  have up : ∀ c o, c ≠ z → c ≠ i1 → c ≠ i2 → h0.get? c = some o → h3.get? c = some o := fun c o a b d e => k3.extBut _ _ d (k2.extBut _ _ b (k1.extBut _ _ a e))
  have es : h3.objs.size = h0.objs.size := by rw [k3.1, k2.1, k1.1]
  have nw : IsTupOf2 (h3.push { cls := .type "tuple", data := .seq #[x, y] }) h3.objs.size x y := Heap.get?_push_size _ rfl
  refine wpAny_pure ⟨_, rfl, ?_⟩
  rw [es] at nw
  show Q (.ref h3.objs.size) _
  rw [es]
  exact hQ x y _ t3 px py (Heap.get?_push_of_some _ (k3.extBut _ _ S.zi2 (k2.extBut _ _ S.zi1 z1)))
    (D1.frame _ _ _ (D1.over v1 k3 S.sep2_1) fun b _ o e => Heap.get?_push_of_some _ e) (D2.frame _ _ _ v2 fun b _ o e => Heap.get?_push_of_some _ e) nw fun c o a b d e => Heap.get?_push_of_some _ (up c o a b d e)
/-- no pair behind the last, the one ahead still held -/
theorem held_end {Q : Fin → Shared → Prop} (S : ZipSep2 z TI TO i1 i2 fp1 fp2) (D1 : Draws prog w A i1 fp1 n1 P1 St1)
    (hz : IsZipHeld s.heap z TI TO T f) (hT : s.heap.get? T = some oT) (hTI : IsTupOf2 s.heap TI (.ref i1) (.ref i2)) (u1 : St1 n1 s.heap)
    (hE : ∀ h' e, (∀ c o, c ≠ z → c ≠ i1 → s.heap.get? c = some o → h'.get? c = some o) → (∃ o, h'.get? e = some o ∧ o.cls = .type "StopIteration") → E (.ref e) { s with heap := h' }) :
    wpAny (model prog w) A (Builtin.«zip.__next__» ⟨[.ref z], []⟩) Q E s := by
  show wpAny _ _ (field (.ref z) 2 >>= _) _ _ _
  refine wpAny_bind (wpAny_field hz rfl (x := .bool false) rfl ?_)
  show wpAny _ _ (field (.ref z) 3 >>= _) _ _ _
  refine wpAny_bind (wpAny_field hz rfl (x := .ref TI) rfl (wpAny_bind (wpAny_seqItems hTI rfl ?_)))
  show wpAny _ _ (Builtin.SmallTypes.ownedTupleIsFree (.ref z) >>= _) _ _ _
  refine wpAny_bind (wpAny_tupleHeld_zip hz hT fun h1 z1 k1 => ?_)
  simp only [Bool.false_eq_true, if_false]
  refine wpAny_bind ?_
  rw [← Array.forIn_toList]
  simp only [List.forIn_cons, List.forIn_nil]
  refine wpAny_bind (wpAny_bind (wpAny_holding ?_))
  show wpAny _ _ (Builtin.SmallTypes.nextOf (.ref i1) >>= _) _ _ _
  exact wpAny_bind (D1.done { s with heap := h1 } _ _ (D1.over u1 k1 S.zf1) fun h2 e k2 he => hE h2 e (fun c o a b x => k2 _ _ b (k1.extBut _ _ a x)) he)
theorem next_held_item {Q : Option Value → Shared → Prop} (S : ZipSep2 z TI TO i1 i2 fp1 fp2) (D1 : Draws prog w A.in1 i1 fp1 n1 P1 St1) (D2 : Draws prog w A.in1 i2 fp2 n2 P2 St2)
    (hz : IsZipHeld s.heap z TI TO T f) (hT : s.heap.get? T = some oT) (hTI : IsTupOf2 s.heap TI (.ref i1) (.ref i2)) (u1 : St1 i s.heap) (u2 : St2 i s.heap) (l1 : i < n1) (l2 : i < n2)
    (hQ : ∀ x y h' tk, P1 i x → P2 i y → IsZipHeld h' z TI TO T true → St1 (i + 1) h' → St2 (i + 1) h' → IsTupOf2 h' s.heap.objs.size x y →
      (∀ c o, c ≠ z → c ≠ i1 → c ≠ i2 → s.heap.get? c = some o → h'.get? c = some o) → Q (some (.ref s.heap.objs.size)) { s with heap := h', toks := tk }) :
    wpAny (model prog w) A (pyNext (.ref z)) Q E s := by
  have ty : s.TypeIs (.ref z) "zip" := ⟨_, hz, rfl⟩
  unfold pyNext
  refine wpAny_bind (wpAny_attempt (wpAny_callSpecial?_slot (name := Str.ofString "__next__") ty F.slot_zip_next (wpAny_call_entry F.slot_zip_next ty F.entry_zip_next ?_ (F.args_zip_next_1 _))))
  exact held_item S D1 D2 hz hT hTI u1 u2 l1 l2 fun x y h' tk a b c d e g k => wpAny_pure (hQ x y h' tk a b c d e g k)
theorem next_held_end {Q : Option Value → Shared → Prop} (S : ZipSep2 z TI TO i1 i2 fp1 fp2) (D1 : Draws prog w A.in1 i1 fp1 n1 P1 St1)
    (hz : IsZipHeld s.heap z TI TO T f) (hT : s.heap.get? T = some oT) (hTI : IsTupOf2 s.heap TI (.ref i1) (.ref i2)) (u1 : St1 n1 s.heap)
    (hQ : ∀ h', (∀ c o, c ≠ z → c ≠ i1 → s.heap.get? c = some o → h'.get? c = some o) → Q none { s with heap := h' }) :
    wpAny (model prog w) A (pyNext (.ref z)) Q E s := by
  have ty : s.TypeIs (.ref z) "zip" := ⟨_, hz, rfl⟩
  unfold pyNext
  refine wpAny_bind (wpAny_attempt (wpAny_callSpecial?_slot (name := Str.ofString "__next__") ty F.slot_zip_next (wpAny_call_entry F.slot_zip_next ty F.entry_zip_next ?_ (F.args_zip_next_1 _))))
  refine held_end S D1 hz hT hTI u1 fun h' e k he => ?_
  obtain ⟨o, ho, hc⟩ := he
  exact wpAny_bind (wpAny_isInstance (T := "StopIteration") (b := true) ⟨o, ho, hc⟩ isSubtype_stop (wpAny_pure (hQ _ k)))
end
theorem apart {h : Heap} {it l a : Addr} {i : Nat} {xs : Array Value} (p : h.IsTupleIter it l i) (q : h.IsTuple a xs) : a ≠ it := by
  intro e
  subst e
  obtain ⟨o, e1, c1, _⟩ := p
  obtain ⟨u, e2, c2, _⟩ := q
  rw [e1] at e2
  cases e2
  rw [c1] at c2
  injection c2 with c2
  exact absurd c2 (by decide)
/-- zip(t, u) as the argument of dict() -/
theorem zipTup {prog : Program} {w : World} (z TI TO i1 i2 a b : Addr) (S : ZipSep2 z TI TO i1 i2 [i1, a] [i2, b]) (xs ys : Array Value) (hl : xs.size = ys.size) :
    PairArg prog w "zip" z [z, TI, TO, i1, a, i2, b] [z, TO, i1, i2] xs.size (fun i k v => xs[i]? = some k ∧ ys[i]? = some v)
      (fun h => IsZip h z TI TO .none ∧ IsTupOf2 h TI (.ref i1) (.ref i2) ∧ IsTupOf2 h TO .none .none ∧ (h.IsTupleIter i1 a 0 ∧ h.IsTuple a xs) ∧ h.IsTupleIter i2 b 0 ∧ h.IsTuple b ys) where
  type := fun s o => ⟨_, o.1, rfl⟩
  notDict := by decide
  keep := fun h h' ⟨q1, q2, q3, ⟨q4, q5⟩, q6, q7⟩ k => ⟨k _ _ q1, k _ _ q2, k _ _ q3, ⟨q4.at fun o => k _ o, q5.at fun o => k _ o⟩, q6.at fun o => k _ o, q7.at fun o => k _ o⟩
  there := fun h ⟨q1, q2, q3, ⟨⟨o4, q4, _⟩, o5, q5, _⟩, ⟨o6, q6, _⟩, o7, q7, _⟩ c hc => by
    simp only [List.mem_cons, List.not_mem_nil, or_false] at hc
    rcases hc with e | e | e | e | e | e | e <;> subst e
    · exact ⟨_, q1⟩
    · exact ⟨_, q2⟩
    · exact ⟨_, q3⟩
    · exact ⟨_, q4⟩
    · exact ⟨_, q5⟩
    · exact ⟨_, q6⟩
    · exact ⟨_, q7⟩
  sub := fun c hc => by
    simp only [List.mem_cons, List.not_mem_nil, or_false] at hc ⊢
    rcases hc with e | e | e | e <;> simp [e]
  noKeys := fun A s Q E hA o h => getAttrOr_miss_zip o.1 rfl rfl rfl zip_no_keys (by decide +kernel) hA h
  iter := fun A s d Q E hA ⟨q1, q2, q3, q4, q6⟩ hd hf h => by
    simp only [List.mem_cons, List.not_mem_nil, or_false, not_or] at hf
    obtain ⟨dz, dI, dO, d1, da, d2, db⟩ := hf
    have D1 := Draws.tuple (prog := prog) (w := w) (A := A.in1) hA i1 a (apart q4.1 q4.2) xs
    have D2 := Draws.tuple (prog := prog) (w := w) (A := A.in1) hA i2 b (apart q6.1 q6.2) ys
    refine wpAny_pyIter_zip q1 (h z [z, TO, i1, i2] (fun i g => IsTupOf2 g TI (.ref i1) (.ref i2) ∧ (g.IsTupleIter i1 a i ∧ g.IsTuple a xs) ∧ (g.IsTupleIter i2 b i ∧ g.IsTuple b ys) ∧
      ((IsZip g z TI TO .none ∧ IsTupOf2 g TO .none .none) ∨ ∃ T f oT, IsZipHeld g z TI TO T f ∧ g.get? T = some oT ∧ T ≠ z ∧ T ≠ i1 ∧ T ≠ i2 ∧ T ≠ d)) s.heap s.toks ?_ ⟨q2, q4, q6, .inl ⟨q1, q3⟩⟩ (fun _ _ e => e) fun c hc => .inl hc)
    refine ⟨fun hm => ?_, fun i g g' st k => ?_, fun i s1 Q1 E1 hi st hds hQ => ?_, fun s1 Q1 E1 st hQ => ?_⟩
    · simp only [List.mem_cons, List.not_mem_nil, or_false] at hm
      rcases hm with e | e | e | e
      · exact dz e
      · exact dO e
      · exact d1 e
      · exact d2 e
    · obtain ⟨p1, ⟨p2, p3⟩, ⟨p4, p5⟩, p6⟩ := st
      refine ⟨k _ _ (Ne.symm dI) p1, ⟨p2.at fun o => k _ o (Ne.symm d1), p3.at fun o => k _ o (Ne.symm da)⟩, ⟨p4.at fun o => k _ o (Ne.symm d2), p5.at fun o => k _ o (Ne.symm db)⟩, ?_⟩
      rcases p6 with ⟨r1, r2⟩ | ⟨T, f, oT, r1, r2, r3, r4, r5, r6⟩
      · exact .inl ⟨k _ _ (Ne.symm dz) r1, k _ _ (Ne.symm dO) r2⟩
      · exact .inr ⟨T, f, oT, k _ _ (Ne.symm dz) r1, k _ _ r6 r2, r3, r4, r5, r6⟩
    · obtain ⟨p1, p2, p4, p6⟩ := st
      have old : ∀ {c o}, s1.heap.get? c = some o → s1.heap.objs.size ≠ c := fun e => Nat.ne_of_gt (Heap.lt_size e)
      have m1 : s1.heap.objs.size ≠ i1 := let ⟨⟨_, e, _⟩, _⟩ := p2; old e
      have m2 : s1.heap.objs.size ≠ i2 := let ⟨⟨_, e, _⟩, _⟩ := p4; old e
      rcases p6 with ⟨r1, r2⟩ | ⟨T, f, oT, r1, r2, r3, r4, r5, r6⟩
      · refine wpAny_pyNext_zipD2_item S D1 D2 r1 p1 r2 p2 p4 hi (hl ▸ hi) fun x y h' tk px py b1 _ c1 c2 b5 _ k => ?_
        exact hQ _ x y h' tk ⟨px, py⟩ (.inl ⟨_, b5, rfl, _, rfl⟩) ⟨k _ _ S.TIz S.TITO S.TIi1 S.TIi2 p1, c1, c2, .inr ⟨_, false, _, b1, b5, old r1, m1, m2, Nat.ne_of_gt hds⟩⟩
          fun c o hc e => k c o (fun v => hc (by simp [v])) (fun v => hc (by simp [v])) (fun v => hc (by simp [v])) (fun v => hc (by simp [v])) e
      · refine next_held_item S D1 D2 r1 r2 p1 p2 p4 hi (hl ▸ hi) fun x y h' tk px py b1 c1 c2 b5 k => ?_
        exact hQ _ x y h' tk ⟨px, py⟩ (.inl ⟨_, b5, rfl, _, rfl⟩) ⟨k _ _ S.TIz S.TIi1 S.TIi2 p1, c1, c2, .inr ⟨T, true, oT, b1, k _ _ r3 r4 r5 r2, r3, r4, r5, r6⟩⟩
          fun c o hc e => k c o (fun v => hc (by simp [v])) (fun v => hc (by simp [v])) (fun v => hc (by simp [v])) e
    · obtain ⟨p1, p2, p4, p6⟩ := st
      rcases p6 with ⟨r1, r2⟩ | ⟨T, f, oT, r1, r2, r3, r4, r5, r6⟩
      · exact wpAny_pyNext_zipD2_end S D1 D2 r1 p1 r2 p2 p4 (Nat.le_refl _) (by omega) (.inl rfl) fun h' tk k => hQ h' tk fun c o hc e => k c o (fun v => hc (by simp [v])) (fun v => hc (by simp [v])) (fun v => hc (by simp [v])) (fun v => hc (by simp [v])) e
      · exact next_held_end S D1 r1 r2 p1 p2 fun h' k => hQ h' s1.toks fun c o hc e => k c o (fun v => hc (by simp [v])) (fun v => hc (by simp [v])) e
open PySem.Spec PyProof.Rows L2
/-- dict(zip(..)) of tuples with keys for items -/
def tDictZip (K : PySem.W.Frag) (t : TA) : TE := fun σ H Q => t σ H fun vs H1 => ∃ (a b : Addr) (ks : List Key) (ys : List V), vs = [.ref a, .ref b] ∧ SqT K H1 a (ks.map kV) ∧ SqT K H1 b ys ∧ ks.length = ys.length ∧
  ∀ p, H1 p = none → Q (.ref p) (upd H1 p (.dK (mergeK [] (ks.zip ys))))
theorem zip_rel : ∀ {ks : List Key} {ys : List V} {us vs : List Value}, Vals (ks.map kV) us → Vals ys vs → ks.length = ys.length →
    KV (ks.zip ys) (ks.zip vs) ∧ us.length = ks.length ∧ ∀ (i : Nat) (k v : Value), us[i]? = some k → vs[i]? = some v → ∃ c, (ks.zip vs)[i]? = some (c, v) ∧ ∀ (P : Program) (w : World), (mixKind P w).is c k = true
  | [], [], _, _, .nil, .nil, _ => ⟨.nil, rfl, fun i k v h => by simp at h⟩
  | c :: ks, y :: ys, _, _, .cons r1 t1, .cons r2 t2, h => by
    obtain ⟨p1, p2, p3⟩ := zip_rel t1 t2 (by simpa using h)
    refine ⟨.cons ⟨rfl, r2⟩ p1, by rw [List.length_cons, List.length_cons, p2], fun i k v h1 h2 => ?_⟩
    cases i with
    | zero =>
      simp at h1 h2
      subst h1 h2
      exact ⟨c, rfl, fun P w => kV_is r1⟩
    | succ i => exact p3 i k v (by simpa using h1) (by simpa using h2)
theorem sepNat (n a b : Nat) (ha : a < n) (hb : b < n) : ZipSep2 (n + 4) (n + 2) (n + 3) n (n + 1) [n, a] [n + 1, b] := by
  have k1 : ∀ i : Nat, 0 < i → n + i ≠ n := fun i h => by omega
  have k2 : ∀ i j : Nat, i ≠ j → n + i ≠ n + j := fun i j h => by omega
  have k3 : ∀ i : Nat, n + i ≠ a := fun i => by omega
  have k4 : ∀ i : Nat, n + i ≠ b := fun i => by omega
  have k5 : n ≠ b := by omega
  have k6 : n ≠ a := by omega
  refine ⟨k2 2 4 (by decide), k2 3 4 (by decide), k2 2 3 (by decide), k1 2 (by decide), List.mem_cons_self, fun h => ?_, fun h => ?_, k2 2 1 (by decide), List.mem_cons_self, fun h => ?_, fun h => ?_, fun h => ?_, fun h => ?_⟩ <;>
    rcases List.mem_cons.mp h with h | h
  · exact k1 4 (by decide) h
  · exact k3 4 (List.mem_singleton.mp h)
  · exact k1 3 (by decide) h
  · exact k3 3 (List.mem_singleton.mp h)
  · exact k2 4 1 (by decide) h
  · exact k4 4 (List.mem_singleton.mp h)
  · exact k2 3 1 (by decide) h
  · exact k4 3 (List.mem_singleton.mp h)
  · exact k1 1 (by decide) h.symm
  · exact k5 (List.mem_singleton.mp h)
  · exact k1 1 (by decide) h
  · exact k3 1 (List.mem_singleton.mp h)
theorem notNew (n c : Nat) (h : c < n) : c ∉ [n + 4, n + 3, n, n + 1] := by
  intro m
  simp only [List.mem_cons, List.not_mem_nil, or_false] at m
  omega
theorem merge_len (ks : List Key) (ys : List V) : (mergeK [] (ks.zip ys)).length ≤ ks.length := by
  refine Nat.le_trans (length_mergeK (ks.zip ys) []) ?_
  rw [List.length_nil, Nat.zero_add, List.length_zip]
  exact Nat.min_le_left ..
theorem pe_dictZip {X : Cx} {e e2 : Expr} {t : TA} {p p2 pos pos2 : Pos} (hc : X.calm = true) (gd : Gl X "dict") (md : X.mg "dict" = none) (gz : Gl X "zip") (mz : X.mg "zip" = none) (ha : PA X [e, e2] t)
    (hs : starEach [e, e2] X.env = (false, eval e X.env) :: starEach [e2] X.env := by rfl) (hpl : (backTo pos2 (starEach [e2] X.env)).any (·.1) = false := by rfl)
    (ho : starEach [.Call (.Name "zip" p2) [e, e2] [] pos2] X.env = (false, eval (.Call (.Name "zip" p2) [e, e2] [] pos2) X.env) :: starEach [] X.env := by rfl) :
    PE X (.Call (.Name "dict" p) [.Call (.Name "zip" p2) [e, e2] [] pos2] [] pos) (tDictZip X.K t) := by
  refine ⟨fun pins s σ H Q I h => ?_⟩
  refine wpAny_Call_Name_kw (ld_blt I gd md PyProof.Rows.boot_dict ?_)
  refine PyProof.Rows.callWith_type1 ?_ ho rfl
  rw [ho]
  show wpAny _ _ (spliced ((false, eval (.Call (.Name "zip" p2) [e, e2] [] pos2) X.env) :: backTo pos (starEach [] X.env))) _ _ s
  refine Calls.spliced_cons ?_
  refine wpAny_Call_Name_kw (ld_blt I gz mz PyProof.Rows.boot_zip (PyProof.Rows.callWith_type1 (thn (ha.run pos2 pins s σ H _ I h) fun us s1 ⟨vs, H1, I1, r1, a, b, ks, ys, ev, hA, hB, hl, q⟩ => ?_) hs hpl))
  subst ev
  obtain ⟨u1, u2, eu, ra, rb⟩ := vals2 r1
  subst eu
  cases ra
  cases rb
  obtain ⟨xs', va, ta, za⟩ := I1.tuple hA
  obtain ⟨ys', vb, tb, zb⟩ := I1.tuple hB
  obtain ⟨o1, ho1, _⟩ := id ta
  obtain ⟨o2, ho2, _⟩ := id tb
  obtain ⟨hrel, hlen, hks⟩ := zip_rel va vb hl
  have ka : s1.heap.IsTuple a xs'.toArray := ta
  have kb : s1.heap.IsTuple b ys'.toArray := tb
  have lb := vb.length
  have big : sysModules < s1.heap.objs.size := I1.big
  have xl : xs'.length ≤ sizeLine := by rw [hlen, ← List.length_map (f := kV) (as := ks)]; exact za
  have la : xs'.toArray.size = ys'.toArray.size := by simp; omega
  have g1 := Heap.lt_size ho1
  have g2 := Heap.lt_size ho2
  refine RZ.call_zipT (show s1.heap.IsTuple a xs'.toArray from ta) (show s1.heap.IsTuple b ys'.toArray from tb) fun h1 hz hTI hTO n1 n2 hsz hk => ?_
  refine Calls.spliced_nil ?_
  have S : ZipSep2 (s1.heap.objs.size + 4) (s1.heap.objs.size + 2) (s1.heap.objs.size + 3) s1.heap.objs.size (s1.heap.objs.size + 1) [s1.heap.objs.size, a] [s1.heap.objs.size + 1, b]  := sepNat _ _ _ g1 g2
  refine PySem.call_dict_pairs (knd := mixKind X.prog X.w) (kvs := ks.zip ys') (s := { s1 with heap := h1 }) (zipTup _ _ _ _ _ a b S xs'.toArray ys'.toArray la) (I1.ok.hd hc)
    ⟨hz, hTI, hTO, ⟨n1, ka.at fun o e => hk _ _ e⟩, n2, kb.at fun o e => hk _ _ e⟩ ⟨?_, fun i k v ⟨e1, e2⟩ => ?_⟩ ?_ fun h2 tk hd k2 => ?_
  · rw [List.length_zip, ← lb]; simp; omega
  · obtain ⟨c, c1, c2⟩ := hks i k v (by simpa using e1) (by simpa using e2)
    exact ⟨c, c1, c2 _ _⟩
  · simpa using xl
  · have hm : (h1.objs.size == sysModules) = false := beq_eq_false_iff_ne.mpr (Nat.ne_of_gt (by rw [hsz]; exact Nat.lt_of_lt_of_le big (Nat.le_add_right _ _)))
    have hz2 : (mergeK [] (ks.zip ys)).length ≤ sizeLine := Nat.le_trans (merge_len ks ys) (by rw [← hlen]; exact xl)
    have hk2 : ∀ c o, s1.heap.get? c = some o → h2.get? c = some o := fun c o e => by
      have lt : (c : Nat) < s1.heap.objs.size := Heap.lt_size e
      exact k2 c o (notNew _ _ lt) (hk c o e)
    exact ⟨.ref h1.objs.size, upd H1 h1.objs.size (.dK (mergeK [] (ks.zip ys))), I1.laid (t' := tk) hk2 (by rw [hsz]; omega) (show ObjOk X.prog X.w _ _ _ (.dK (mergeK [] (ks.zip ys))) from ⟨hz2, hm, merged [] (ks.zip ys'), KV.merge hrel .nil, hd⟩), rfl, q _ (I1.hok.fresh (by rw [hsz]; omega))⟩
end Td
/-! tuple(d.items()). -/
namespace Td
open PySem PySem.Spec PyProof.Rows L2
section
variable {prog : Program} {w : World} {K : Type} [DecidableEq K] {knd : KeyKind prog w K} {A : Around} {E : Value → Shared → Prop} {s : Shared} {r d : Addr} {kvs : List (K × Value)} {ep : Nat}
/-- what a heap holds behind the items are taken -/
def Taken (knd : KeyKind prog w K) (kvs : List (K × Value)) (h h' : Heap) (as : List Addr) : Prop :=
  (∀ b o, h.get? b = some o → h'.get? b = some o) ∧ as.length = kvs.length ∧ PySem.W.KdxG knd kvs h.objs.size h' as ∧
  ∃ acc c, acc.toList = as.map Value.ref ∧ h'.get? h.objs.size = some { cls := .type "list", dict := none, data := .seq acc c, slots := #[] }
theorem collect_view {Q : List Value → Shared → Prop} (hh : A.handled = none) (hv : s.heap.IsItemsView r d) (hm : s.heap.DictAt knd d kvs ep) (hn : kvs.length ≤ sizeLine)
    (hQ : ∀ (h' : Heap) (tk : Nat) (as : List Addr), Taken knd kvs s.heap h' as → Q (as.map Value.ref) { s with heap := h', toks := tk }) :
    wpAny (model prog w) A (collect (.ref r)) Q E s := by
  have lr : r < s.heap.objs.size := by obtain ⟨o, e, _⟩ := hv; exact Heap.lt_size e
  have ld : d < s.heap.objs.size := hm.lt_size
  have e0 : (s.heap.push { cls := .type "list", data := .seq ([] : List Value).toArray }).get? s.heap.objs.size = some { cls := .type "list", data := .seq #[] 0 } := Heap.get?_push_size _ rfl
  have sz : (s.heap.push { cls := .type "list", data := .seq ([] : List Value).toArray }).objs.size = s.heap.objs.size + 1 := Heap.size_push ..
  have step : ∀ (as : List Addr) (acc : Array Value) (c : Nat) (h' : Heap) (tk : Nat), Taken knd kvs s.heap h' as → acc.toList = as.map Value.ref → h'.get? s.heap.objs.size = some { cls := .type "list", dict := none, data := .seq acc c, slots := #[] } →
      Q acc.toList { s with heap := h', toks := tk } := fun as acc c h' tk t e _ => by rw [e]; exact hQ h' tk as t
  unfold collect
  refine wpAny_bind (wpAny_runValue (codeAny_builtin F.entry_proto_collect ?_))
  rw [Around.under_plainId F.plain_proto_collect _]
  show wpAny _ A.in1 (newList [] >>= fun l => again (.builtin "list.__iadd__" ⟨[l, .ref r], []⟩)) _ _ s
  refine wpAny_bind (wpAny_newObj_type (wpAny_pure ⟨plainId_quiet F.plain_list_iadd _, codeAny_builtin F.entry_list_iadd ?_⟩))
  rw [Around.under_plainId F.plain_list_iadd _]
  show wpAny _ A.in1 (Builtin.List.listExtendWith (.ref s.heap.objs.size) (.ref r) (.ref s.heap.objs.size)) _ _ _
  refine wpAny_mono (PySem.W.kdx_extend (A := A) (knd := knd) (kvs := kvs) (ep := ep) (d := d) (s := { s with heap := s.heap.push { cls := .type "list", data := .seq ([] : List Value).toArray } })
    (R := fun rr s' => rr = .ok (.ret (.ref s.heap.objs.size)) ∧ ∃ (h' : Heap) (tk : Nat) (as : List Addr) (acc : Array Value) (c : Nat), s' = { s with heap := h', toks := tk } ∧ Taken knd kvs s.heap h' as ∧ acc.toList = as.map Value.ref ∧
      h'.get? s.heap.objs.size = some { cls := .type "list", dict := none, data := .seq acc c, slots := #[] }) hh (let ⟨o, e, c⟩ := hv; ⟨o, Heap.get?_push_of_some _ e, c⟩) (hm.push _) s.heap.objs.size (Nat.ne_of_gt lr) (Nat.ne_of_lt ld) _ 0 e0
    (fun h' tk acc c as k e hl hG ha => ⟨rfl, h', tk, as, acc, c, rfl, ⟨fun b o q => k b o (Nat.ne_of_lt (Heap.lt_size q)) (Heap.get?_push_of_some _ q), hl, hG.low (by rw [sz]; exact Nat.le_succ _), acc, c, ha, e⟩, ha, e⟩) hn) (fun f s' h => ?_) (fun e s' h => absurd h.1 (by simp))
  cases f with
  | done f =>
    obtain ⟨e, h', tk, as, acc, c, rfl, t, ha, g⟩ := h
    cases e
    exact wpAny_bind (wpAny_load g (wpAny_pure (step as acc c h' tk t ha g)))
  | again c' =>
    refine ⟨h.1, codeAny_mono h.2 fun rr s2 q => ?_⟩
    obtain ⟨rfl, h', tk, as, acc, c, rfl, t, ha, g⟩ := q
    show wpAny _ A (load s.heap.objs.size >>= _) _ _ _
    exact wpAny_bind (wpAny_load g (wpAny_pure (step as acc c h' tk t ha g)))
theorem code_tuple_view {Q : Value → Shared → Prop} (hh : A.handled = none) (hv : s.heap.IsItemsView r d) (hm : s.heap.DictAt knd d kvs ep) (hn : kvs.length ≤ sizeLine)
    (hQ : ∀ (h' : Heap) (tk : Nat) (as : List Addr), Taken knd kvs s.heap h' as → Q (.ref h'.objs.size) { s with heap := h'.push { cls := .type "tuple", data := .seq (as.map Value.ref).toArray }, toks := tk }) :
    codeAny (model prog w) A (.call (.builtin "tuple.__new__") ⟨[.type "tuple", .ref r], []⟩) (wants Q E) s := by
  refine codeAny_of_tree ?_
  show wpAny _ A.in1 (do checkBuiltinCall "tuple.__new__" ⟨[.type "tuple", .ref r], []⟩; again (.builtin "tuple.__new__" ⟨[.type "tuple", .ref r], []⟩)) _ _ s
  refine wpAny_bind (wpAny_of_eq (F.newCall_tuple_1 _) (wpAny_pure ⟨plainId_quiet F.plain_tuple_new _, codeAny_builtin F.entry_tuple_new ?_⟩))
  rw [Around.under_plainId F.plain_tuple_new _]
  have k1 := sub_tuple_self
  have k2 := init_tuple_lookup
  have k3 := madeHere_tuple
  have k4 : s.TypeIs (.ref r) "dict_items" := hv.typeIs
  have k5 : A.in1.handled = none := hh
  wp_walk using wpAny_typeOf k4, collect_view (A := A.in1) (knd := knd) (kvs := kvs) (ep := ep) k5 hv hm hn
  intro h' tk as t
  show wpAny _ _ (Builtin.Tuple.tupleExact (as.map Value.ref).toArray >>= fun v => ret v) _ _ _
  unfold Builtin.Tuple.tupleExact
  exact wpAny_bind (wpAny_newObj_type (wpAny_pure (hQ h' tk as t)) (by show (as.map Value.ref).toArray.size ≤ sizeLine; rw [List.size_toArray, List.length_map, t.2.1]; exact hn))
theorem call_tuple_view {Q : Value → Shared → Prop} (hh : A.handled = none) (hv : s.heap.IsItemsView r d) (hm : s.heap.DictAt knd d kvs ep) (hn : kvs.length ≤ sizeLine)
    (hQ : ∀ (h' : Heap) (tk : Nat) (as : List Addr), Taken knd kvs s.heap h' as → Q (.ref h'.objs.size) { s with heap := h'.push { cls := .type "tuple", data := .seq (as.map Value.ref).toArray }, toks := tk }) :
    wpAny (model prog w) A (call (.type "tuple") [.ref r]) Q E s := by
  refine callType_codes (Q₁ := fun obj s₁ => s₁.TypeIs obj "tuple" ∧ Q obj s₁) F.called_tuple (F.typeCall_tuple_1 _) F.entry_object_init
    (code_tuple_view (A := A.in1) hh hv hm hn fun h' tk as t => ⟨⟨_, Heap.get?_push_size _ rfl, rfl⟩, hQ h' tk as t⟩) fun obj s1 q => ?_
  exact ⟨q.1, F.args_object_init_2 obj _, object_init_meets F.called_tuple.init.lookup F.called_tuple.made (by decide) prog w A.in1 _ s1 ⟨q.1, rfl, q.2⟩⟩
end
/-- tuple(d.items()): a new tuple of new pairs -/
def tTupItems (te : TE) : TE := fun σ H Q => te σ H fun x H1 => ∃ (d : Addr) (kvs : List (Key × V)), x = .ref d ∧ H1 d = some (.dK kvs) ∧
  ∀ (H' : Hp) (p : Addr) (ts : List Addr), Same H1 H' → H1 p = none → H' p = some (.tup (ts.map V.ref)) → Paired (fun (t : Addr) (q : Key × V) => H' t = some (.tup [kV q.1, q.2])) ts kvs → Q (.ref p) H'
section
variable {X : Cx} {e : Expr} {te : TE} {p apos cpos pos : Pos}
theorem pe_tupleItems (hc : X.calm = true) (he : PE X e te) (hg : Gl X "tuple") (hm : X.mg "tuple" = none) (hbase : attributeBase e "items" X.env (eval e X.env) = eval e X.env := by rfl) (hline : (apos.endLine == cpos.line) = true := by rfl)
    (hs : starEach [.Call (.Attribute e "items" apos) [] [] cpos] X.env = (false, eval (.Call (.Attribute e "items" apos) [] [] cpos) X.env) :: starEach [] X.env := by rfl) :
    PE X (.Call (.Name "tuple" p) [.Call (.Attribute e "items" apos) [] [] cpos] [] pos) (tTupItems te) := by
  refine ⟨fun pins s σ H Q I hq => ?_⟩
  refine wpAny_Call_Name_kw (ld_blt I hg hm PyProof.Rows.boot_tuple (PyProof.Rows.callWith_type1 ?_ hs rfl))
  rw [hs]
  show wpAny _ _ (spliced ((false, eval (.Call (.Attribute e "items" apos) [] [] cpos) X.env) :: backTo pos (starEach [] X.env))) _ _ s
  refine Calls.spliced_cons (wpAny_Call_method (T := "dict") (id := "dict.items") hbase rfl hline F.plainAttrs_dict F.slot_dict_items F.type_dict_items (thn (he.run pins s σ H _ I hq) fun u s1 ⟨x, H1, I1, rx, d, kvs, ex, hd, q⟩ => ?_))
  subst ex
  obtain rfl : u = Value.ref d := rx
  obtain ⟨hz, n0, vs, kv, hdo⟩ := I1.hok d _ hd
  obtain ⟨ep, hat⟩ := hdo.dictAt
  have lk : kvs.length = vs.length := Paired.length kv
  have I2 : Inv X pins σ H1 { s1 with heap := s1.heap.push { cls := .type "dict_items", data := .fields #[.ref d] } } := I1.kept (t' := s1.toks) fun b o q => Heap.get?_push_of_some _ q
  refine ⟨hdo.typeIs, hdo.mapOf.noDict, ?_⟩
  show wpAny _ _ (callWith cpos (.builtin "dict.items") [.ref d] [] []) _ X.xe s1
  refine method_meetsIn F.slot_dict_items F.entry_dict_items rfl (PySem.evalArgs_none ⟨rfl, hdo.typeIs, F.args_dict_items_1 _, _, meets_dict_items (mixKind X.prog X.w) d n0, ⟨vs, hdo⟩, ?_⟩)
  refine Calls.spliced_nil ?_
  refine call_tuple_view (knd := mixKind X.prog X.w) (kvs := vs) (ep := ep) (I1.ok.hd hc) ⟨_, Heap.get?_push_size _ rfl, rfl, rfl⟩ (hat.push _) (by omega) fun h' tk as ⟨k, hl, hG, acc, c, ha, hS⟩ => ?_
  obtain ⟨H', k1, k2, k3, k4, k5, k6, J⟩ := LiI.items_laid (tk := tk) I2 hz kv k hS hl hG ha
  have hx : (as.map V.ref).length ≤ sizeLine := by rw [List.length_map, hl]; omega
  have J2 := J.laid (a := h'.objs.size) (o := .tup (as.map V.ref)) (t' := tk) (h' := h'.push { cls := .type "tuple", data := .seq (as.map Value.ref).toArray }) (fun b o e => Heap.get?_push_of_some _ e) (Nat.le_refl _) ⟨hx, as.map Value.ref, LiI.vals_refs as, IsTup.new _ _⟩
  have hp : H' h'.objs.size = none := J.hok.fresh (Nat.le_refl _)
  refine ⟨.ref h'.objs.size, _, J2, rfl, q _ _ as (fun b o e => Same.new hp _ _ _ (k1 b o e)) ?_ upd_same ?_⟩
  · cases e1 : H1 h'.objs.size with
    | none => rfl
    | some o => rw [k1 _ _ e1] at hp; cases hp
  · exact Paired.mono (fun t q e => Same.new hp _ _ _ e) k6
end
end Td
/-! A run hangs on the words it noted and peeked at. -/
namespace Td
open PySem PySem.Spec PyProof.Rows L2
/-- noted or peeked -/
def RS.seen (st : RS) (c : Str) : Prop := (getE st.noted c).isSome = true ∨ (getE st.peeked c).isSome = true
theorem sdE_get (L : Env) (k v j : Str) : getE (sdE L k v) j = if j = k then (match getE L k with | some u => some u | none => some v) else getE L j := by
  unfold sdE
  cases h : getE L k with
  | some u =>
    simp only [Option.isSome_some, if_true]
    by_cases e : j = k
    · rw [if_pos e, e, h]
    · rw [if_neg e]
  | none =>
    simp only [Option.isSome_none, Bool.false_eq_true, if_false]
    rw [getE_put]
theorem sdE_keep {L : Env} {k v j : Str} (h : (getE L j).isSome = true) : (getE (sdE L k v) j).isSome = true := by
  rw [sdE_get]
  split
  · split <;> rfl
  · exact h
theorem sdE_new (L : Env) (k v : Str) : (getE (sdE L k v) k).isSome = true := by
  rw [sdE_get, if_pos rfl]
  split <;> rfl
mutual
theorem seen_R (kn : Str → Str) (d c : Str) : ∀ (r : Row) (st : RS), st.seen c → (runR kn d r st).1.seen c
  | .rd pk a s, st, h => by
    simp only [runR]
    cases pk
    · rcases h with h | h
      · exact .inl (sdE_keep h)
      · exact .inr h
    · rcases h with h | h
      · exact .inl h
      · exact .inr (sdE_keep h)
  | .put s u, st, h => by simp only [runR]; exact h
  | .give s, st, h => by simp only [runR]; exact h
  | .say s, st, h => by simp only [runR]; exact h
  | .wr a s, st, h => by simp only [runR]; exact h
  | .ite s u y n, st, h => by
    simp only [runR]
    split
    · exact seen_Rs kn d c y st h
    · exact seen_Rs kn d c n st h
theorem seen_Rs (kn : Str → Str) (d c : Str) : ∀ (rs : List Row) (st : RS), st.seen c → (runRs kn d rs st).1.seen c
  | [], st, h => by simp only [runRs]; exact h
  | r :: rs, st, h => by
    have h1 := seen_R kn d c r st h
    by_cases hb : (runR kn d r st).2 = true
    · rw [runRs_yes _ hb]; exact h1
    · rw [runRs_no _ hb]; exact seen_Rs kn d c rs _ h1
end
mutual
/-- words that agree where the run looked give the same run -/
theorem same_R (kn k2 : Str → Str) (d : Str) : ∀ (r : Row) (st : RS), (∀ c, (runR kn d r st).1.seen c → k2 c = kn c) → runR k2 d r st = runR kn d r st
  | .rd pk a s, st, h => by
    have e : k2 a = kn a := by
      refine h a ?_
      simp only [runR]
      cases pk
      · exact .inl (sdE_new ..)
      · exact .inr (sdE_new ..)
    simp only [runR, e]
  | .put s u, st, h => by simp only [runR]
  | .give s, st, h => by simp only [runR]
  | .say s, st, h => by simp only [runR]
  | .wr a s, st, h => by simp only [runR]
  | .ite s u y n, st, h => by
    simp only [runR] at h ⊢
    split
    · rename_i e
      rw [if_pos e] at h
      exact same_Rs kn k2 d y st h
    · rename_i e
      rw [if_neg e] at h
      exact same_Rs kn k2 d n st h
theorem same_Rs (kn k2 : Str → Str) (d : Str) : ∀ (rs : List Row) (st : RS), (∀ c, (runRs kn d rs st).1.seen c → k2 c = kn c) → runRs k2 d rs st = runRs kn d rs st
  | [], st, h => by simp only [runRs]
  | r :: rs, st, h => by
    have h1 : runR k2 d r st = runR kn d r st := by
      refine same_R kn k2 d r st fun c hc => h c ?_
      by_cases hb : (runR kn d r st).2 = true
      · rw [runRs_yes _ hb]; exact hc
      · rw [runRs_no _ hb]; exact seen_Rs kn d c rs _ hc
    by_cases hb : (runR kn d r st).2 = true
    · rw [runRs_yes _ hb, runRs_yes _ (by rw [h1]; exact hb), h1]
    · have hb2 : ¬ (runR k2 d r st).2 = true := by rw [h1]; exact hb
      rw [runRs_no _ hb, runRs_no _ hb2, h1]
      exact same_Rs kn k2 d rs _ fun c hc => h c (by rw [runRs_no _ hb]; exact hc)
end
/-- what is noted is what was told -/
def RS.tells (kn : Str → Str) (st : RS) : Prop := (∀ c u, (c, u) ∈ st.noted → u = kn c) ∧ ∀ c u, (c, u) ∈ st.peeked → u = kn c
theorem mem_put {L : Env} {k v c u : Str} (h : (c, u) ∈ putE L k v) : (c, u) ∈ L ∨ (c = k ∧ u = v) := by
  unfold putE at h
  split at h
  · obtain ⟨p, hp, e⟩ := List.mem_map.mp h
    split at e
    · rename_i e2
      cases e
      exact .inr ⟨e2, rfl⟩
    · subst e; exact .inl hp
  · rcases List.mem_append.mp h with h | h
    · exact .inl h
    · rw [List.mem_singleton] at h
      cases h
      exact .inr ⟨rfl, rfl⟩
theorem mem_sd {L : Env} {k v c u : Str} (h : (c, u) ∈ sdE L k v) : (c, u) ∈ L ∨ (c = k ∧ u = v) := by
  unfold sdE at h
  split at h
  · exact .inl h
  · exact mem_put h
mutual
theorem true_R (kn : Str → Str) (d : Str) : ∀ (r : Row) (st : RS), st.tells kn → (runR kn d r st).1.tells kn
  | .rd pk a s, st, h => by
    simp only [runR]
    refine ⟨fun c u hc => ?_, fun c u hc => ?_⟩
    · cases pk
      · rcases mem_sd hc with q | ⟨rfl, rfl⟩
        · exact h.1 c u q
        · rfl
      · exact h.1 c u hc
    · cases pk
      · exact h.2 c u hc
      · rcases mem_sd hc with q | ⟨rfl, rfl⟩
        · exact h.2 c u q
        · rfl
  | .put s u, st, h => by simp only [runR]; exact h
  | .give s, st, h => by simp only [runR]; exact h
  | .say s, st, h => by simp only [runR]; exact h
  | .wr a s, st, h => by simp only [runR]; exact h
  | .ite s u y n, st, h => by
    simp only [runR]
    split
    · exact true_Rs kn d y st h
    · exact true_Rs kn d n st h
theorem true_Rs (kn : Str → Str) (d : Str) : ∀ (rs : List Row) (st : RS), st.tells kn → (runRs kn d rs st).1.tells kn
  | [], st, h => by simp only [runRs]; exact h
  | r :: rs, st, h => by
    have h1 := true_R kn d r st h
    by_cases hb : (runR kn d r st).2 = true
    · rw [runRs_yes _ hb]; exact h1
    · rw [runRs_no _ hb]; exact true_Rs kn d rs _ h1
end
/-- the told words agree with what a run noted -/
def agree (kn : Str → Str) (st : RS) : Bool := (st.noted ++ st.peeked).all fun p => decide (kn p.1 = p.2)
theorem agree_iff (kn : Str → Str) (st : RS) : agree kn st = true ↔ st.tells kn := by
  unfold agree RS.tells
  rw [List.all_append, Bool.and_eq_true, List.all_eq_true, List.all_eq_true]
  constructor
  · rintro ⟨h1, h2⟩
    exact ⟨fun c u h => (of_decide_eq_true (h1 _ h)).symm, fun c u h => (of_decide_eq_true (h2 _ h)).symm⟩
  · rintro ⟨h1, h2⟩
    exact ⟨fun p h => decide_eq_true (h1 p.1 p.2 h).symm, fun p h => decide_eq_true (h2 p.1 p.2 h).symm⟩
theorem get_mem {L : Env} {c : Str} (h : (getE L c).isSome = true) : ∃ u, (c, u) ∈ L := by
  obtain ⟨u, hu⟩ := Option.isSome_iff_exists.mp h
  unfold getE at hu
  obtain ⟨p, hp, e⟩ := Option.map_eq_some_iff.mp hu
  have h1 := List.find?_some hp
  have h2 := List.mem_of_find?_eq_some hp
  have h3 : p.1 = c := of_decide_eq_true h1
  exact ⟨p.2, by rw [← h3]; exact h2⟩
/-- what two answers show -/
def RS.shows (st s2 : RS) (dv : Bool) : Prop := st.noted = s2.noted ∧ st.peeked = s2.peeked ∧ st.said = s2.said ∧ st.written = s2.written ∧ (dv = true → st.given = s2.given)
theorem hangs (k1 k2 : Str → Str) (d : Str) (rs : List Row) (st : RS) (dv : Bool) (t : ∀ kn, st.tells kn) :
    agree k1 (runRs k1 d rs st).1 = true ∧ (agree k2 (runRs k1 d rs st).1 = true ↔ (runRs k1 d rs st).1.shows (runRs k2 d rs st).1 dv) := by
  have h1 := true_Rs k1 d rs st (t k1)
  have h2 := true_Rs k2 d rs st (t k2)
  refine ⟨(agree_iff _ _).mpr h1, fun h => ?_, fun h => ?_⟩
  · have a := (agree_iff _ _).mp h
    have e := same_Rs k1 k2 d rs st fun c hc => by
      rcases hc with hc | hc
      · obtain ⟨u, hu⟩ := get_mem hc
        rw [← a.1 c u hu, ← h1.1 c u hu]
      · obtain ⟨u, hu⟩ := get_mem hc
        rw [← a.2 c u hu, ← h1.2 c u hu]
    rw [e]
    exact ⟨rfl, rfl, rfl, rfl, fun _ => rfl⟩
  · obtain ⟨e1, e2, _⟩ := h
    rw [agree_iff]
    exact ⟨fun c u hc => h2.1 c u (by rw [← e1]; exact hc), fun c u hc => h2.2 c u (by rw [← e2]; exact hc)⟩
end Td
/-! == of two dicts that hold data. -/
namespace Td
open PySem PySem.Spec PyProof.Rows L2
/-- one dict's values against the other's -/
def hitsV (K : PySem.W.Frag) (H : Hp) (ls : List (Key × V)) : List (Key × V) → Bool → Prop
  | [], r => r = true
  | p :: ps, r => ∃ (u : V) (d e : PyData) (r' : Bool), valV ls p.1 = some u ∧ Dp K H p.2 d ∧ Dp K H u e ∧ d.canLay0 = true ∧ e.canLay0 = true ∧ d.depth ≤ 60 ∧ hitsV K H ls ps r' ∧ r = (PyData.eqv d e && r')
def rEqK (K : PySem.W.Frag) : R2 := fun x y H Q => ∃ (a b : Addr) (ks ls : List (Key × V)) (r : Bool), x = .ref a ∧ y = .ref b ∧ H a = some (.dK ks) ∧ H b = some (.dK ls) ∧ ks.length = ls.length ∧ hitsV K H ls ks r ∧ Q (.bl r) H
section
variable {X : Cx} {pins : List (Addr × Obj)} {σ : L2.St} {H : Hp} {s : Shared}
theorem hits_data (I : Inv X pins σ H s) {A : Around} (hu : A.units + 60 < cLine) {ls : List (Key × V)} {vb : List (Key × Value)} (rb : KV ls vb) : ∀ {ks : List (Key × V)} {va : List (Key × Value)} {r : Bool}, KV ks va → hitsV X.K H ls ks r → PySem.W.KeqHitsP X.prog X.w A s vb va r
  | [], _, r, .nil, h => by
    have h : r = true := h
    subst h
    exact .nil
  | p :: ps, _, r, .cons (b := q) h t, hp => by
    obtain ⟨u, d, e, r', e1, d1, d2, c1, c2, l, hr, rfl⟩ := hp
    obtain ⟨h1, h2⟩ := h
    have rr : RelO (some u) (valueAt vb p.1) := by rw [← e1]; exact rb.val p.1
    obtain ⟨y, hy, ry⟩ := rr.some_of
    obtain ⟨key, v⟩ := q
    have h1' : p.1 = key := h1
    rw [h1'] at hy
    obtain ⟨as, g1⟩ := Dp.reads I d p.2 v d1 h2
    obtain ⟨bs, g2⟩ := Dp.reads I e u y d2 ry
    exact .hit hy (SeqAt.EqAt.eqP (SeqAt.eqAt_reads d e A s v y as bs g1 g2 c1 c2 (by have := Nat.min_le_left d.depth e.depth; omega))) (hits_data I hu rb t hr)
theorem op_eqK (hu : X.A.units + 64 < cLine) : OpR X (compareOp .Eq) (rEqK X.K) := by
  intro pins s σ H x y v u Q I rx ry h
  obtain ⟨a, b, ks, ls, r, rfl, rfl, ea, eb, hl, hh, q⟩ := h
  obtain rfl : v = .ref a := rx
  obtain rfl : u = .ref b := ry
  obtain ⟨_, ya, va, ra, da⟩ := dk_of I.hok ea
  obtain ⟨_, yb, vb, rb, db⟩ := dk_of I.hok eb
  refine PySem.W.rcP_dicts (knd := mixKind X.prog X.w) (r := r) ya yb da db (by omega) (fun _ => hits_data I (A := X.A.in1) (by show X.A.units + 1 + 60 < cLine; omega) rb ra hh) _ _ ?_
  have e : (va.length == vb.length && r) = r := by
    have h1 : va.length = vb.length := by rw [← Paired.length ra, ← Paired.length rb, hl]
    rw [h1]; simp
  rw [e]
  exact ⟨.bl r, H, I, rfl, q⟩
end
/-! ### the data of an answer -/
theorem wr_eqv (p q : Str × Str) : PyData.eqv (wrD p) (wrD q) = decide (p = q) := by
  obtain ⟨a, b⟩ := p
  obtain ⟨c, d⟩ := q
  unfold wrD
  simp only [PyData.eqv, PyData.eqvAll, Prod.mk.injEq, Bool.and_true, Bool.decide_and]
  congr 1
theorem env_eqvAll : ∀ L M : Env, PyData.eqvAll (L.map wrD) (M.map wrD) = decide (L = M)
  | [], [] => rfl
  | [], _ :: _ => rfl
  | _ :: _, [] => rfl
  | p :: L, q :: M => by
    rw [List.map_cons, List.map_cons]
    simp only [PyData.eqvAll, wr_eqv, env_eqvAll L M, List.cons.injEq, Bool.decide_and]
theorem strs_eqvAll : ∀ L M : List Str, PyData.eqvAll (L.map PyData.str) (M.map PyData.str) = decide (L = M)
  | [], [] => rfl
  | [], _ :: _ => rfl
  | _ :: _, [] => rfl
  | p :: L, q :: M => by
    rw [List.map_cons, List.map_cons]
    simp only [PyData.eqvAll, PyData.eqv, strs_eqvAll L M, List.cons.injEq, Bool.decide_and]
    congr 1
theorem nm_ok {z : Str} (h : isNm z = true) : PyData.strOk z = true := by
  unfold isNm at h
  simp only [Bool.and_eq_true] at h
  have h2 := h.2
  unfold PyData.strOk
  rw [← Array.all_toList]
  rw [List.all_eq_true] at h2 ⊢
  intro c hc
  have := h2 c hc
  unfold lowc at this
  simp only [Bool.and_eq_true, decide_eq_true_eq] at this
  exact decide_eq_true (by omega)
theorem env_lay : ∀ L : Env, (∀ p ∈ L, isNm p.1 = true ∧ isNm p.2 = true) → PyData.canLayAll0 (L.map wrD) = true
  | [], _ => rfl
  | p :: L, h => by
    have h1 := h p List.mem_cons_self
    have h2 := env_lay L fun q hq => h q (List.mem_cons_of_mem _ hq)
    rw [List.map_cons]
    unfold wrD at h2 ⊢
    simp only [PyData.canLayAll0, PyData.canLay0, nm_ok h1.1, nm_ok h1.2, h2]
    rfl
theorem strs_lay : ∀ L : List Str, (∀ z ∈ L, isNm z = true) → PyData.canLayAll0 (L.map PyData.str) = true
  | [], _ => rfl
  | p :: L, h => by
    have h2 := strs_lay L fun q hq => h q (List.mem_cons_of_mem _ hq)
    rw [List.map_cons]
    simp only [PyData.canLayAll0, PyData.canLay0, nm_ok (h p List.mem_cons_self), h2]
    rfl
theorem env_deep : ∀ L : Env, PyData.depthAll (L.map wrD) ≤ 2
  | [] => by simp [PyData.depthAll]
  | p :: L => by
    rw [List.map_cons]
    unfold wrD
    have := env_deep L
    unfold wrD at this
    simp only [PyData.depthAll, PyData.depth]
    omega
theorem strs_deep : ∀ L : List Str, PyData.depthAll (L.map PyData.str) ≤ 2
  | [] => by simp [PyData.depthAll]
  | p :: L => by
    rw [List.map_cons]
    have := strs_deep L
    simp only [PyData.depthAll, PyData.depth]
    omega
/-! ### all that a run holds are names -/
structure RS.Nm (st : RS) : Prop where
  sl : ∀ p ∈ st.slots, isNm p.2 = true
  no : ∀ p ∈ st.noted, isNm p.1 = true ∧ isNm p.2 = true
  pe : ∀ p ∈ st.peeked, isNm p.1 = true ∧ isNm p.2 = true
  sa : ∀ z ∈ st.said, isNm z = true
  wr : ∀ p ∈ st.written, isNm p.1 = true ∧ isNm p.2 = true
  gi : isNm st.given = true
structure ScNm (S : Sc) (kn : Str → Str) : Prop where
  rd : ∀ c ∈ S.readable, isNm c = true ∧ isNm (kn c) = true
  so : ∀ c ∈ S.sources, isNm c = true
  wo : ∀ c ∈ S.words, isNm c = true
theorem put_mem {L : Env} {k v : Str} {p : Str × Str} (h : p ∈ putE L k v) : p ∈ L ∨ (p.1 = k ∧ p.2 = v) := by
  unfold putE at h
  split at h
  · obtain ⟨q, hq, e⟩ := List.mem_map.mp h
    split at e
    · rename_i e2
      subst e
      exact .inr ⟨e2, rfl⟩
    · subst e; exact .inl hq
  · rcases List.mem_append.mp h with h | h
    · exact .inl h
    · rw [List.mem_singleton] at h
      subst h
      exact .inr ⟨rfl, rfl⟩
theorem sd_mem {L : Env} {k v : Str} {p : Str × Str} (h : p ∈ sdE L k v) : p ∈ L ∨ (p.1 = k ∧ p.2 = v) := by
  unfold sdE at h
  split at h
  · exact .inl h
  · exact put_mem h
theorem get_has {L : Env} {k u : Str} (h : getE L k = some u) : ∃ p ∈ L, p.2 = u := by
  unfold getE at h
  obtain ⟨p, hp, e⟩ := Option.map_eq_some_iff.mp h
  exact ⟨p, List.mem_of_find?_eq_some hp, e⟩
theorem word_nm {st : RS} {d s : Str} (h : st.Nm) (hd : isNm d = true) : isNm (st.word d s) = true := by
  unfold RS.word
  cases e : getE st.slots s with
  | none => exact hd
  | some u =>
    obtain ⟨p, hp, rfl⟩ := get_has e
    exact h.sl p hp
mutual
theorem nm_R {S : Sc} {kn : Str → Str} {d : Str} (hS : ScNm S kn) (hd : isNm d = true) : ∀ (r : Row) (dep : Nat) (st : RS), okR S dep r → st.Nm → (runR kn d r st).1.Nm
  | .rd pk c s, dep, st, ok, h => by
    unfold okR at ok
    obtain ⟨c1, c2⟩ := hS.rd c ok.2.1
    have hs : ∀ p ∈ putE st.slots s (kn c), isNm p.2 = true := fun p hp => by
      rcases put_mem hp with q | ⟨_, e⟩
      · exact h.sl p q
      · rw [e]; exact c2
    have hg : ∀ L : Env, (∀ p ∈ L, isNm p.1 = true ∧ isNm p.2 = true) → ∀ p ∈ sdE L c (kn c), isNm p.1 = true ∧ isNm p.2 = true := fun L hL p hp => by
      rcases sd_mem hp with q | ⟨e1, e2⟩
      · exact hL p q
      · rw [e1, e2]; exact ⟨c1, c2⟩
    simp only [runR]
    cases pk
    · exact ⟨hs, hg _ h.no, h.pe, h.sa, h.wr, h.gi⟩
    · exact ⟨hs, h.no, hg _ h.pe, h.sa, h.wr, h.gi⟩
  | .put s u, dep, st, ok, h => by
    unfold okR at ok
    simp only [runR]
    refine ⟨fun p hp => ?_, h.no, h.pe, h.sa, h.wr, h.gi⟩
    rcases put_mem hp with q | ⟨_, e⟩
    · exact h.sl p q
    · rw [e]; exact hS.wo u ok.2
  | .give s, dep, st, ok, h => by
    simp only [runR]
    exact ⟨h.sl, h.no, h.pe, h.sa, h.wr, word_nm h hd⟩
  | .say s, dep, st, ok, h => by
    simp only [runR]
    refine ⟨h.sl, h.no, h.pe, fun z hz => ?_, h.wr, h.gi⟩
    rcases List.mem_append.mp hz with q | q
    · exact h.sa z q
    · rw [List.mem_singleton.mp q]; exact word_nm h hd
  | .wr c s, dep, st, ok, h => by
    unfold okR at ok
    simp only [runR]
    refine ⟨h.sl, h.no, h.pe, h.sa, fun p hp => ?_, h.gi⟩
    rcases List.mem_append.mp hp with q | q
    · exact h.wr p q
    · rw [List.mem_singleton.mp q]; exact ⟨hS.so c ok.2.1, word_nm h hd⟩
  | .ite s u y n, dep, st, ok, h => by
    unfold okR at ok
    simp only [runR]
    split
    · exact nm_Rs hS hd y (dep + 1) st ok.2.2.2.1 h
    · exact nm_Rs hS hd n (dep + 1) st ok.2.2.2.2 h
theorem nm_Rs {S : Sc} {kn : Str → Str} {d : Str} (hS : ScNm S kn) (hd : isNm d = true) : ∀ (rs : List Row) (dep : Nat) (st : RS), okRs S dep rs → st.Nm → (runRs kn d rs st).1.Nm
  | [], dep, st, ok, h => by simp only [runRs]; exact h
  | r :: rs, dep, st, ok, h => by
    unfold okRs at ok
    have h1 := nm_R hS hd r dep st ok.1 h
    by_cases hb : (runR kn d r st).2 = true
    · rw [runRs_yes _ hb]; exact h1
    · rw [runRs_no _ hb]; exact nm_Rs hS hd rs dep _ ok.2 h1
end
end Td
/-! A method whose first statement is super().__init__() with no more arguments. -/
namespace Td
open PySem PySem.Spec PyProof.Rows L2
/-- what is written of such a method: it stands at f in the class at C, its class cell at cc; g is the other class's __init__ -/
structure Sup (P : Program) (K : PySem.W.Frag) (qual : Str) (st : Stmt) (f C g : Addr) (fd : FuncData) : Prop where
  ex : ∃ (oc : Value) (od : Option Addr) (sl : Array (Option Value)) (kV doc pm : Value) (an : Option Addr) (ct : Value) (cc cda : Addr) (ccl : Value) (cdd : Option Addr) (vs : Array Value) (ccs : Array (Option Value)) (file : Str) (tf : Tok) (cl : Value) (cld : Option Addr) (csl : Array (Option Value)),
    fd = PySem.W.fnX "__init__" qual (defArgs st) (defBody st) (defScope st) [("__class__", cc)] .none kV doc pm an (.ref cda) ct ∧ K.lookup f = some ⟨oc, od, .func fd, sl⟩ ∧ PySem.W.codeIn K (.ref cda) qual = true ∧
    K.lookup cda = some ⟨ccl, cdd, .fields vs, ccs⟩ ∧ vs[2]? = some (.str file tf) ∧ ((P.main.file : Str) == file) = true ∧ K.lookup cc = some ⟨cl, cld, .cell (some (.ref C)), csl⟩
  cls : ∃ cd, PySem.W.clsIn K C = some cd
  mro : PySem.W.mroIn K C (.ref C) = some true
  up : PySem.W.ks_superIn K C C "__init__" = some (some (.ref g))
  ty : PySem.W.typeIn K (.ref g) = some (.type "function")
  fn : PySem.W.fnIn K g = true
  opq : PySem.W.nsIn K cStatics "thirdparty.any" = some none
  glob : PySem.W.nsIn K mainGlobals "super" = some none
  kp : PySem.W.keepIn K (.ref f) = true
def supNF (qual : Str) (st : Stmt) (cc cda : Addr) : NdefX.NF := ⟨"__init__", qual, defArgs st, defBody st, defScope st, [("__class__", cc)], cda⟩
theorem sup_tree {o : Expr} {m : Str} {ap cp : Pos} {env : PySem.Env} (hl : (ap.endLine == cp.line) = true) : eval (.Call (.Attribute o m ap) [] [] cp) env = (do
      let ov ← attributeBase o m env (eval o env)
      standAt ap.atName
      let (f, first) ← holding [ov] (getMethod ov m (plainOf o env))
      callWith cp f first (backTo cp (starEach [] env)) []) := by
  rw [arm_eval_Call]
  refine bind_congr fun ov => bind_congr fun _ => ?_
  exact mcall_line rfl hl
section
variable {P : Program} {w : World} {K : PySem.W.Frag} {mg : Str → Option Value} {base : Heap}
theorem Sup.binds {qual : Str} {st : Stmt} {f C g : Addr} {fd : FuncData} {ps : List Str} (F : Sup P K qual st f C g fd)
    (h : ∀ (kV doc pm : Value) (an : Option Addr) (cdv ct : Value) (cc : Addr) (us : List Value), us.length = ps.length → bindArgs (PySem.W.fnX "__init__" qual (defArgs st) (defBody st) (defScope st) [("__class__", cc)] .none kV doc pm an cdv ct) ⟨us, []⟩ = pure (ps.zip us)) : Binds K fd ps [] := by
  obtain ⟨oc, od, sl, kV, doc, pm, an, ct, cc, cda, ccl, cdd, vs, ccs, file, tf, cl, cld, csl, rfl, _⟩ := F.ex
  exact .all (h kV doc pm an (.ref cda) ct cc)
theorem fn_super {qual : Str} {st : Stmt} {f C g : Addr} {fd gd : FuncData} {N ps : List Str} {k : Nat} {sp spG : Sp} {p0 p1 ap cp ep : Pos} {rest : List Stmt} {ar : Arg} {us0 : List Str}
    (F : Sup P K qual st f C g fd) (hst : defBody st = .Expr (.Call (.Attribute (.Call (.Name "super" p0) [] [] p1) "__init__" ap) [] [] cp) ep :: rest)
    (S : NdefX.NScope N ps ["__class__"] (defScope st)) (hps : ps = ar.arg :: us0) (har : ((defArgs st).posonlyargs ++ (defArgs st).args).head? = some ar)
    (hline : (ap.endLine == cp.line) = true) (hks : (defScope st).names.lookup ("super" : Str) = some .globalImplicit) (htop : (P.main.scope.names.lookup ("super" : Str)).isSome = false)
    (G : FnOk P w K mg base CX0 k g gd [ar.arg] spG) (bG : Binds K gd [ar.arg] [])
    (len : ∀ vs H Q E, sp vs H Q E → vs.length = ps.length)
    (hbody : ∀ (A : Around) (outer : List PySem.Env) (s : Shared) (H : Hp) (vs : List V) (Q : VK) (E : XK) (cc cda : Addr), Room k (A.deeper (NdefX.envF (supNF qual st cc cda) f s.heap.objs.size)) → sp vs H Q E →
      ∃ (x dx : Addr) (fs : List (Str × V)) (vs' : List V), vs = .ref x :: vs' ∧ H x = some (.ins C dx fs) ∧ spG [.ref x] H (fun v H' => v = .non ∧
        ∃ t, PSs (NdefX.ncx CX0 P w K mg base N (supNF qual st cc cda) f A outer s H E) rest t ∧ t { nx := fun _ H' => Q .non H', rt := Q } (NdefX.startF N vs [none]) H') E0) :
    FnOk P w K mg base CX0 (k + 1) f fd ps sp := by
  refine ⟨len, fun A outer s H args us vs Q E hr e0 hb r hsp => ?_⟩
  obtain ⟨oc, od, sl, kV, doc, pm, an, ct, cc, cda, ccl, cdd, cvs, ccs, file, tf, cl, cld, csl, rfl, lk, hcd, lcd, hcv, hfile, lcc⟩ := F.ex
  have hl := len _ _ _ _ hsp
  have KX : K.In s.heap := e0.mod.kin.keeps fun b o e => (e0.bs b o e).1
  have lim : s.heap.NoLimit := e0.mod.nolimit.keeps fun b o e => (e0.bs b o e).1
  refine ks_codeAny_call_defAt hr.depth (KX _ _ lk) rfl lim (PySem.W.codeRec_of KX hcd) rfl hb S.nocell (fun ⟨n, _⟩ hy => S.par n (List.of_mem_zip hy).1) (fun h₁ hns kp => ?_) S.co S.gen S.kind
  show PySem.wpAt _ (A.deeper (NdefX.envF (supNF qual st cc cda) f s.heap.objs.size)) (.func (defBody st) (NdefX.envF (supNF qual st cc cda) f s.heap.objs.size)) (execs (defBody st) (NdefX.envF (supNF qual st cc cda) f s.heap.objs.size)) _ _ _
  have cells : NdefX.CellsAt (supNF qual st cc cda).cl ["__class__"] [none] s.heap H := by
    have one : ∀ y c, List.lookup y [(("__class__" : Str), cc)] = some c → y = "__class__" ∧ c = cc := fun y c e => by
      by_cases z : y = ("__class__" : Str)
      · subst z
        simp [List.lookup] at e
        exact ⟨rfl, e.symm⟩
      · have q : (y == ("__class__" : Str)) = false := by simpa using z
        simp [List.lookup, q] at e
    refine ⟨rfl, fun y c e => ?_, fun x y c e1 e2 => (one x c e1).1.trans (one y c e2).1.symm, fun i y e => ?_⟩
    · obtain ⟨_, rfl⟩ := one y c e
      exact ⟨(e0.bs _ _ (e0.mod.kin _ _ lcc)).2, some (.ref C), _, KX _ _ lcc, rfl⟩
    · cases i with
      | zero =>
        have ey : y = "__class__" := (Option.some.inj e).symm
        subst ey
        exact ⟨cc, by simp [supNF, List.lookup], fun v z => by simp at z⟩
      | succ n => simp at e
  have I : Inv (NdefX.ncx CX0 P w K mg base N (supNF qual st cc cda) f A outer s H E) [] (NdefX.startF N vs [none]) H { s with heap := h₁, toks := s.toks + (ps.zip us).length } := NdefX.inv_startN S hr.hd e0 hl r cells hns kp
  obtain ⟨x, dx, fs, vs', rfl, hx, hG⟩ := hbody A outer s H vs Q E cc cda (hr.deeper _) hsp
  cases r with
  | cons ru rr =>
    rename_i u0 us1
    obtain rfl : u0 = Value.ref x := ru
    have K1 : K.In h₁ := I.kIn
    obtain ⟨cd, hcls⟩ := F.cls
    obtain ⟨oD, hD1, hD2⟩ : ∃ oD, h₁.get? C = some oD ∧ oD.data = .cls cd := by
      unfold PySem.W.clsIn at hcls
      split at hcls
      · rename_i c d cd' sl' ho
        cases hcls
        exact ⟨_, K1 _ _ ho, rfl⟩
      · cases hcls
    obtain ⟨mA, O, _⟩ := ins_get I.hok hx
    obtain ⟨od1, J, _⟩ := O.look
    have nx : (NdefX.envF (supNF qual st cc cda) f s.heap.objs.size).kindOf "super" = some .globalImplicit := hks
    have nc : (NdefX.envF (supNF qual st cc cda) f s.heap.objs.size).kindOf "__class__" = some .free := S.frk _ (by simp)
    have ns : (NdefX.envF (supNF qual st cc cda) f s.heap.objs.size).kindOf ar.arg = some .local := S.par _ (by rw [hps]; simp)
    obtain ⟨mb, hb1, hb2⟩ := e0.mod.blt
    rw [hst]
    refine ks_wpAt_execs_cons (ks_wpAt_Expr_any ?_ I.quiet)
    refine ks_wpAt_MethodCall ?_ (sup_tree hline)
    refine ks_wpAt_super_base nx nc rfl rfl (K1 _ _ lk) rfl har rfl (K1 _ _ lcd) rfl hcv hfile htop ?_
    refine PySem.W.ks_loadName_global S.kind nx (Calls.loadGlobal_builtin (by exact e0.mod.glob.keeps I.bk) (PySem.W.mg_none_of e0.mod.kin e0.mod.glob F.glob) (by exact hb1.keeps I.bk) ((hb2 "super" (by decide)).trans (by decide +kernel : bootBuiltins "super" = some (.type "super"))) ⟨rfl, ?_⟩)
    refine wpAny_loadName_free S.kind nc rfl ⟨_, K1 _ _ lcc, rfl⟩ ?_
    refine wpAny_loadName_local S.kind ns hns (v := .ref x) ?_ ?_
    · rw [hps, List.zip_cons_cons, List.reverse_cons, List.lookup_append]
      have hn : (us0.zip us1).reverse.lookup ar.arg = none := by
        have nd := S.nd.sublist (List.take_sublist (ps.length + 1) N)
        have pre := S.pre
        rw [show (["__class__"] : List Str).length = 1 from rfl] at pre
        rw [pre, hps, List.cons_append] at nd
        exact NdefX.look_none fun v hv => (List.nodup_cons.mp nd).1 (List.mem_append_left _ (List.of_mem_zip (List.mem_reverse.mp hv)).1)
      rw [hn]
      simp [List.lookup]
    refine ks_wpAny_isType_cls hD1 hD2 ⟨rfl, ?_⟩
    refine ks_wpAny_call_super hD1 hD2 J.at_ J.cls (fun c e => by cases e) (PySem.W.looks_mroIn K1 F.mro) (fun h' eso k' => ?_)
    have K2 : K.In h' := K1.keeps k'
    have hgf : ∃ of, h'.get? g = some of ∧ of.cls = .type "function" := by
      have ht' : (K.lookup g).map (·.cls) = some (.type "function") := F.ty
      cases z : K.lookup g with
      | none => rw [z] at ht'; cases ht'
      | some of => rw [z] at ht'; exact ⟨of, K2 _ _ z, Option.some.inj ht'⟩
    obtain ⟨of, hof, hofc⟩ := hgf
    have hup := F.up
    unfold PySem.W.ks_superIn at hup
    rw [hcls] at hup
    refine ks_wpAny_getMethod_super eso (PySem.W.looks_opaque K2 F.opq) (l₀ := cd.mro) ?_ rfl K2 hup hof hofc (PySem.W.ks_ne K1 J hcls) rfl ?_
    · exact fun A Q E s k q => wpAny_bind ((PySem.W.looks_clsIn K2 hcls) A _ E s k (wpAny_pure q))
    have k3 : ∀ b o, h₁.get? b = some o → (h'.push { cls := .type "method", data := .fields #[.ref g, .ref x] }).get? b = some o := fun b o e => Heap.get?_push_of_some _ (k' b o e)
    have J2 := I.kept (t' := s.toks + (ps.zip (Value.ref x :: us1)).length + 1) k3
    refine PySem.W.callWith_M0 (g := g) (self := .ref x) (K := K) ⟨Heap.get?_push_at rfl rfl, J2.kIn⟩ F.fn (wpAny_call (ks_codeAny_call_bound (Heap.get?_push_at rfl rfl) ?_))
    refine codeAny_mono (G.run _ _ _ H ⟨[.ref x], []⟩ [.ref x] [.ref x] _ E0 (hr.deeper _) J2.env0 (bG _ [.ref x] J2.kIn rfl) (.cons rfl .nil) hG) fun r s' hq => ?_
    cases r with
    | error e => exact hq.elim
    | ok fl =>
      cases fl with
      | next => exact False.elim hq
      | brk => exact False.elim hq
      | cont => exact False.elim hq
      | ret u =>
        obtain ⟨v, H', J3, rv, ev, t, ht, hq3⟩ := J2.after hq
        refine PySem.wpAt_of_wpAny ?_
        refine wpAny_mono (ht.run [] s' _ H' _ J3 hq3) (fun fl s2 hs => ?_) fun e s2 hs => hs
        have fin : ∀ {σ' : L2.St} {H' : Hp} {v : V} {u : Value}, Inv (NdefX.ncx CX0 P w K mg base N (supNF qual st cc cda) f A outer s H E) [] σ' H' s2 → RelV v u → Q v H' → CE outer P w H s Q u s2 :=
          fun {σ' H' v u} J rv q => ⟨v, H', J.os, J.bare, J.base, J.hok, rv, q⟩
        cases fl with
        | ret u =>
          obtain ⟨v, σ', H', J, rv, q⟩ := hs
          exact fin J rv q
        | next =>
          obtain ⟨σ', H', J, q⟩ := hs
          exact fin (v := V.non) (u := Value.none) J rfl q
        | brk =>
          obtain ⟨_, _, _, q⟩ := hs
          exact False.elim q
        | cont =>
          obtain ⟨_, _, _, q⟩ := hs
          exact False.elim q
end
end Td
/-! Own exceptions of one field; several clauses with a name each; a datum in a tuple. -/
namespace Td
open PySem PySem.Spec PyProof.Rows L2
/-! ### a datum in a tuple of data -/
def rInDT (K : PySem.W.Frag) (neg : Bool) : R2 := fun x y H Q => ∃ d ds, Dp K H x d ∧ Dp K H y (.tuple ds) ∧ SeqAt.shaped d = true ∧ SeqAt.shaped (.tuple ds) = true ∧ Q (.bl (if neg then !(ds.any fun z => PyData.eqv z d) else ds.any fun z => PyData.eqv z d)) H
section
variable {X : Cx}
theorem op_inDT (hu : X.A.units + 65 < cLine) : OpR X (compareOp .In) (rInDT X.K false) := by
  rintro pins s σ H x y v u Q I rx ry ⟨d, ds, h1, h2, e1, e2, q⟩
  obtain ⟨la, ra⟩ := Dp.reads I d x v h1 rx
  obtain ⟨lb, rb⟩ := Dp.reads I (.tuple ds) y u h2 ry
  exact SeqAt.in_tuple_reads rb ra (SeqAt.canLay_of_shaped e2) (SeqAt.canLay_of_shaped e1) (room_in_shaped e1 hu) ⟨.bl _, H, I, rfl, q⟩
end
theorem units65 {k : Nat} {A : Around} (r : Room k A) : A.units + 65 < cLine := by have := r.un; omega
/-! ### an own exception of one field -/
def spExc (K : PySem.W.Frag) (C : Addr) : Str → Sp := fun f vs H Q _ => ∃ (a : Addr) (y : V), vs = [.ref a, y] ∧ H a = some (exo a C none) ∧
  ∀ dx H', H dx = none → dx ≠ a → H' = upd (upd H dx (exd dx [(f, y)])) a (exo a C (some dx)) → Q .non H'
/-- what a raise wants of the way out -/
def Rz (C : Addr) (f : Str) (y : V) (H : Hp) (E : XK) : Prop := ∀ (d : Addr) (H' : Hp), Same H H' → H d = none → H' d = some (.xd [(f, y)]) → E (.ref C) (some d) H'
theorem Rz.later {C : Addr} {f : Str} {y : V} {H H1 : Hp} {E : XK} (r : Rz C f y H E) (s : Same H H1) : Rz C f y H1 E := fun d H' s' hd e => by
  refine r d H' (s.trans s') ?_ e
  cases z : H d with
  | none => rfl
  | some o => rw [s _ _ z] at hd; cases hd
theorem one_field {H : Hp} {a C dx : Addr} {f : Str} {y : V} (ha : H a = none) (hx : dx ≠ a) :
    upd (del (upd (upd (upd H a (exo a C none)) dx (exd dx [(f, y)])) a (exo a C (some dx))) a) dx (.xd [(f, y)]) = upd H dx (.xd [(f, y)]) := by
  funext b
  by_cases h1 : b = dx
  · rw [h1, upd_same, upd_same]
  · rw [upd_ne h1, upd_ne h1]
    by_cases h2 : b = a
    · rw [h2, del_same, ha]
    · rw [del_ne h2, upd_ne h2, upd_ne h1, upd_ne h2]
/-- the making of such an exception, with its argument at hand -/
theorem made_one {K : PySem.W.Frag} {C : Addr} {f : Str} {y : V} {H : Hp} {Q : XK} (q : Rz C f y H Q) : [y].length ≤ 1000 ∧ ∀ a, H a = none → spExc K C f (.ref a :: ([y] ++ [])) (upd H a (exo a C none))
    (fun v H2 => v = .non ∧ ∃ (d : Addr) (fs : List (Str × V)), H2 a = some (exo a C (some d)) ∧ H2 d = some (exd d fs) ∧ H d = none ∧ Q (.ref C) (some d) (upd (del H2 a) d (.xd fs))) (fun _ _ _ => False) := by
  refine ⟨by show 1 ≤ 1000; decide, fun a ha => ⟨a, y, rfl, upd_same, fun dx H' hdx hne e => ⟨rfl, dx, [(f, y)], ?_, ?_, ?_, ?_⟩⟩⟩
  · rw [e]; exact upd_same
  · rw [e, upd_ne hne]; exact upd_same
  · rw [upd_ne hne] at hdx; exact hdx
  · have hd : H dx = none := by rw [upd_ne hne] at hdx; exact hdx
    rw [e, one_field ha hne]
    exact q dx _ (Same.new hd _) hd upd_same
/-! ### try: .. except A as e: .. except B as e: .. -/
abbrev SuiteT : Type := Addr → Value → Option Addr → TS
/-- D, slot i emptied ahead of it -/
def emptied (i : Nat) (D : Ends) : Ends := { nx := fun τ G => D.nx (τ.set i none) G, rt := D.rt, bk := fun τ G => D.bk (τ.set i none) G, ct := fun τ G => D.ct (τ.set i none) G }
def wAsL (K : PySem.W.Frag) (Wout : WX) (D : Ends) : List (Value × Nat × SuiteT) → WX
  | [] => Wout
  | q :: r => fun cls d σ H => ∃ b, PySem.W.exmOne K cls q.1 = some b ∧ (b = true → ∀ a, H a = none → q.2.2 a cls d (emptied q.2.1 D) (σ.set q.2.1 (some (.ref a))) H) ∧ (b = false → wAsL K Wout D r cls d σ H)
inductive Clauses (X : Cx) : List ExceptHandler → List (Value × Nat × SuiteT) → Prop
  | none : Clauses X [] []
  | more {x n : Str} {c : Value} {i : Nat} {t : SuiteT} {st : Stmt} {sts : List Stmt} {p p' : Pos} {hs : List ExceptHandler} {l : List (Value × Nat × SuiteT)} (hi : X.N[i]? = some n) (hn : X.env.kindOf n = some .local) (hc : L2.Names X x c)
      (go : ∀ (a : Addr) (o : Obj) (cls : Value) (d : Option Addr) (pn : List (Addr × Obj)), Zc cls d o → (∃ vs, o.data = .fields vs) → PSs (X.suite a ((a, o) :: pn)) (st :: sts) (t a cls d)) (r : Clauses X hs l) :
      Clauses X (.ExceptHandler (some (.Name x p)) (some n) (st :: sts) p' :: hs) ((c, i, t) :: l)
section
variable {X : Cx}
theorem ps_try_asL {body : List Stmt} {h : ExceptHandler} {hs : List ExceptHandler} {l : List (Value × Nat × SuiteT)} {pos : Pos} {tb : WX → TS} {Wout : WX} (h1 : X.stack = X.env :: X.outer) (h2 : X.env.frame = some X.env.locals) (nd : X.N.Nodup) (tk : Takes X Wout)
    (hb : ∀ (W : WX) (pn : List (Addr × Obj)) (xe : Value → Shared → Prop), Takes (X.tr pn xe) W → PassesOwn (model X.prog X.w) X.A X.env xe → PSs (X.tr pn xe) body (tb W))
    (hh : Clauses X (h :: hs) l) : PS X (.Try body (h :: hs) [] [] pos) (fun D σ H => tb (wAsL X.K Wout D l) D σ H) := by
  constructor
  intro pins s σ H D I want
  have okX := I.ok
  have frX : X.A.frames = some (X.env :: X.outer) := okX.frames.trans (congrArg some h1)
  refine wpAny_Try_except (wpAny_mono ((hb (wAsL X.K Wout D l) (X.pn ++ pins) (fun e s₁ => wpAny (model X.prog X.w) X.A (noteFrame e X.env) (fun _ s₂ => wpAny (model X.prog X.w) X.A (setFlight e none)
    (fun _ s₃ => wpAny (model X.prog X.w) X.A (handleBy e X.env (h :: hs)) (SP X pins D) X.xe s₃) X.xe s₂) X.xe s₁) (fun u s1 got => ?_) PassesOwn.looking).run [] s σ H D (I.toTry _) want) (fun fl s1 fin => ?_) fun _ _ z => z)
  · obtain ⟨a, B, sI, pins', τ, G, cls, d, rfl, J0, nb, up, sky, na, os, ag, w⟩ := got
    have J := J0.ofTry okX
    rw [h1] at sky
    show wpAny (model X.prog X.w) X.A (noteFrame (.ref a) X.env) _ _ _
    refine Sky.land Zc.steady frX h2 sky fun hp fly up1 => ?_
    have JP : Inv X pins τ G { s1 with heap := hp } := J.landed nb fly.1 (up.trans up1) os ag
    obtain ⟨o, vs, ho, hz, hd⟩ := fly.there
    have off : a ∉ frs (X.env :: X.outer) := fun m => by
      obtain ⟨_, o', e', nf⟩ := fly.2.2.1.mem m
      rw [ho] at e'
      cases e'
      exact nf _ hd
    have offL : a ≠ X.env.locals := fun z => off (List.mem_filterMap.mpr ⟨X.env, List.mem_cons_self, by rw [h2, z]⟩)
    have offF : a ∉ X.fs := fun m => by
      obtain ⟨ev, he, q⟩ := List.mem_filterMap.mp m
      exact off (List.mem_filterMap.mpr ⟨ev, List.mem_cons_of_mem _ he, q⟩)
    have SP0 := JP.suite ho hd na offL offF
    suffices all : ∀ {hs' : List ExceptHandler} {l' : List (Value × Nat × SuiteT)}, Clauses X hs' l' → wAsL X.K Wout D l' cls d τ G → wpAny (model X.prog X.w) X.A (handleBy (.ref a) X.env hs') (SP X pins D) X.xe { s1 with heap := hp } from all hh w
    intro hs' l' cl
    induction cl with
    | none =>
      intro w0
      refine wpAny_handleBy_nil ?_
      obtain ⟨_, _, _, o1, vs1, T, _, _, ho1, _, hd1, hv1, _⟩ := id fly
      unfold PySem.passOn
      refine wpAny_bind (wpAny_field ho1 hd1 hv1 ?_)
      rw [if_neg (show ¬ ((Value.ref T == Value.none) = true) by simp)]
      have away : wpAny (model X.prog X.w) X.A (setFlight (.ref a) X.env.frame) (fun _ s4 => wpAny (model X.prog X.w) X.A (throw (.ref a) : Sem Flow) (SP X pins D) X.xe s4) X.xe { s1 with heap := hp } := by
        rw [h2]
        exact HandSPX.setFlight_upZ fly fun hq kq uq => wpAny_throw (tk _ _ ⟨a, B, sI, pins, τ, G, cls, d, rfl, J, nb, (up.trans up1).trans uq, .inr (.inr (by rw [h1]; exact kq)), na, os, ag, w0⟩)
      first
        | exact wpAny_bind (wpAny_pure (wpAny_bind away))
        | exact wpAny_bind away
    | @more x n c i t st sts p p' hs2 l2 hi hn hc go r ih =>
      intro w0
      obtain ⟨b, hm, yes, no⟩ := w0
      refine wpAny_handleBy_cons (codeAny_handlers_test ?_) (by intro q; cases q)
      have tyA : PySem.W.Looks (model X.prog X.w) hp (typeOf (.ref a)) cls := fun _ _ _ _ k q => wpAny_typeOf_ref (k _ _ ho) (by rw [hz.1]; exact q)
      have mt := PySem.W.exm_one (M := model X.prog X.w) JP.kIn tyA hm
      have name : ∀ {Q : Value → Shared → Prop} {E : Value → Shared → Prop}, Q c { s1 with heap := hp } → wpAny (model X.prog X.w) (X.A.mark (some (.ref a))) (eval (.Name x p) X.env) Q E { s1 with heap := hp } := fun q => by
        rcases hc with ⟨hg, hdb, hm1 | ⟨hm1, hv1, hn1⟩⟩
        · exact ld_glob (X := X.suite a ((a, o) :: (X.pn ++ pins))) SP0 hg hm1 q hdb
        · exact ld_blt (X := X.suite a ((a, o) :: (X.pn ++ pins))) SP0 hg hm1 hv1 q hn1 hdb
      refine name (mt.here ?_)
      cases b with
      | false => exact ih (no rfl)
      | true =>
        refine codeAny_handlers_suite_as (HandSPX.lands_againZ fly fun hq fq uq => ?_)
        have JQ : Inv X pins τ G { s1 with heap := hq } := J.landed nb fq.1 ((up.trans up1).trans uq) os ag
        obtain ⟨oq, vq, hoq, hzq, hdq⟩ := fq.there
        refine store_ok (X := X.suite a ((a, oq) :: (X.pn ++ pins))) (v := .ref a) (JQ.suite hoq hdq na offL offF) nd hi (.inl hn) rfl (fun s5 S5 => ?_) (.inr hn)
        refine wpAny_mono ((go a oq cls d (X.pn ++ pins) hzq ⟨_, hdq⟩).run [] s5 _ G _ S5 (yes rfl a na)) (fun fl s6 e6 => ?_) fun _ _ z => z.elim
        have gone : ∀ {τ6 : L2.St} {G6 : Hp} {Q : Shared → Prop}, Inv (X.suite a ((a, oq) :: (X.pn ++ pins))) [] τ6 G6 s6 → (∀ s7, Inv X pins (τ6.set i none) G6 s7 → Q s7) →
            wpAny (model X.prog X.w) X.A (do bindName X.env n .none; unbindBehindTheSuite X.env n p') (fun _ s7 => Q s7) X.xe s6 := fun S6 hq => gone_ok (S6.unsuite okX) nd hi hn hq
        cases fl with
        | next => exact let ⟨_, _, S6, q6⟩ := e6; gone S6 fun _ J7 => ⟨_, _, J7, q6⟩
        | brk => exact let ⟨_, _, S6, q6⟩ := e6; gone S6 fun _ J7 => ⟨_, _, J7, q6⟩
        | cont => exact let ⟨_, _, S6, q6⟩ := e6; gone S6 fun _ J7 => ⟨_, _, J7, q6⟩
        | ret u => exact let ⟨_, _, _, S6, r6, q6⟩ := e6; gone S6 fun _ J7 => ⟨_, _, _, J7, r6, q6⟩
  · cases fl with
    | next => exact let ⟨τ, G, J, q⟩ := fin; wpAny_execs_nil ⟨τ, G, J.ofTry okX, q⟩
    | brk => exact let ⟨τ, G, J, q⟩ := fin; ⟨τ, G, J.ofTry okX, q⟩
    | cont => exact let ⟨τ, G, J, q⟩ := fin; ⟨τ, G, J.ofTry okX, q⟩
    | ret u => exact let ⟨v, τ, G, J, r, q⟩ := fin; ⟨v, τ, G, J.ofTry okX, r, q⟩
end
end Td
/-! Own exceptions of two fields. -/
namespace Td
open PySem PySem.Spec PyProof.Rows L2
def spExc2 (K : PySem.W.Frag) (C : Addr) (f1 f2 : Str) : Sp := fun vs H Q _ => ∃ (a : Addr) (y1 y2 : V), vs = [.ref a, y1, y2] ∧ H a = some (exo a C none) ∧
  ∀ dx H', H dx = none → dx ≠ a → H' = upd (upd (upd H dx (exd dx [(f1, y1)])) a (exo a C (some dx))) dx (exd dx [(f2, y2), (f1, y1)]) → Q .non H'
theorem two_fields {H : Hp} {a C dx : Addr} {f1 f2 : Str} {y1 y2 : V} (ha : H a = none) (hx : dx ≠ a) :
    upd (del (upd (upd (upd (upd H a (exo a C none)) dx (exd dx [(f1, y1)])) a (exo a C (some dx))) dx (exd dx [(f2, y2), (f1, y1)])) a) dx (.xd [(f2, y2), (f1, y1)]) = upd H dx (.xd [(f2, y2), (f1, y1)]) := by
  funext b
  by_cases h1 : b = dx
  · rw [h1, upd_same, upd_same]
  · rw [upd_ne h1, upd_ne h1]
    by_cases h2 : b = a
    · rw [h2, del_same, ha]
    · rw [del_ne h2, upd_ne h1, upd_ne h2, upd_ne h1, upd_ne h2]
theorem made_two {K : PySem.W.Frag} {C : Addr} {f1 f2 : Str} {y1 y2 : V} {H : Hp} {Q : XK} (q : ∀ (d : Addr) (H' : Hp), Same H H' → H d = none → H' d = some (.xd [(f2, y2), (f1, y1)]) → Q (.ref C) (some d) H') :
    [y1, y2].length ≤ 1000 ∧ ∀ a, H a = none → spExc2 K C f1 f2 (.ref a :: ([y1, y2] ++ [])) (upd H a (exo a C none))
    (fun v H2 => v = .non ∧ ∃ (d : Addr) (fs : List (Str × V)), H2 a = some (exo a C (some d)) ∧ H2 d = some (exd d fs) ∧ H d = none ∧ Q (.ref C) (some d) (upd (del H2 a) d (.xd fs))) (fun _ _ _ => False) := by
  refine ⟨by show 2 ≤ 1000; decide, fun a ha => ⟨a, y1, y2, rfl, upd_same, fun dx H' hdx hne e => ⟨rfl, dx, [(f2, y2), (f1, y1)], ?_, ?_, ?_, ?_⟩⟩⟩
  · rw [e, upd_ne (Ne.symm hne)]; exact upd_same
  · rw [e]; exact upd_same
  · rw [upd_ne hne] at hdx; exact hdx
  · have hd : H dx = none := by rw [upd_ne hne] at hdx; exact hdx
    rw [e, two_fields ha hne]
    exact q dx _ (Same.new hd _) hd upd_same
/-! ### isinstance(e, c) of the error that a suite holds -/
def rIsX (K : PySem.W.Frag) (a : Addr) (cls : Value) (d : Option Addr) (C : Addr) : List V → Hp → VK → Prop := fun xs H Q => cls = .ref C ∧ ∃ (dd : Addr) (fs : List (Str × V)) (c : V) (cv : Value) (b : Bool), d = some dd ∧ H dd = some (.xd fs) ∧ xs = [.ref a, c] ∧ (∀ u, RelV c u → u = cv) ∧
  PySem.W.kitOne K (.ref C) cv = some b ∧ Q (.bl b) H
theorem call_isX {X : Cx} {a C : Addr} {oe : Obj} {cls : Value} {d : Option Addr} {pn : List (Addr × Obj)} (T : ExcC X.K C) (hz : Zc cls d oe) (hf : ∃ vs, oe.data = .fields vs) : CallR (X.suite a ((a, oe) :: pn)) (.builtin "isinstance") (rIsX X.K a cls d C) := by
  rintro pins s σ H xs us Q I r ⟨rfl, dd, fs, c, cv, b, rfl, eH, rfl, hcv, hk, q⟩
  cases r with
  | cons r1 rr =>
    cases rr with
    | cons r2 rr =>
      cases rr
      cases r1
      obtain rfl := hcv _ r2
      obtain ⟨live, _⟩ := I.pin (a, oe) (List.mem_append_left _ List.mem_cons_self)
      obtain ⟨vs, hv⟩ := hf
      have there : ObjOk X.prog X.w H s.heap dd (.xd fs) := I.hok dd _ eH
      obtain ⟨mA, ns, _⟩ := there
      obtain ⟨od, hod, _⟩ := lookIn_ns ns
      have J : PySem.W.InstAt s.heap a oe C (some od) := ⟨live, hz.1, by unfold PySem.W.notCls; rw [hv] <;> rfl, by rw [hz.2]; exact hod⟩
      have cl : (PySem.W.clsIn X.K C).isSome = true := by
        obtain ⟨cd, hc, _⟩ := PySem.W.any_some T.hd
        rw [hc]
        rfl
      exact PySem.W.kia_one (PySem.W.kitx_exc cl T.hg T.hk T.hs T.ha T.hn T.ht T.hm) I.kIn J hk (fun z => nomatch z) fun tk => ⟨.bl b, H, I.kept (t' := tk) fun _ _ z => z, rfl, q⟩
/-! ### C(..) and o.m(..) in a body whose errors are caught -/
/-- a new object of the class at C, its errors at the slots -/
def tMakeAt (C : Addr) (sp : Sp) (E : L2.St → XK) (t : TA) : TE := fun σ H Q => t σ H fun vs H1 => ∀ x dx, H1 x = none → H1 dx = none → dx ≠ x →
  sp (.ref x :: vs) (upd (upd H1 dx (.own x)) x (.ins C dx [])) (fun v H2 => v = .non ∧ Q (.ref x) H2) (E σ)
def tMethAt (C : Addr) (m : Str) (sp : Sp) (E : L2.St → XK) (ta : TE) (t : TA) : TE := fun σ H Q => ta σ H fun x H1 => ∃ a dx fs, x = .ref a ∧ H1 a = some (.ins C dx fs) ∧ fs.lookup m = none ∧ t σ H1 fun vs H2 => sp (x :: vs) H2 Q (E σ)
section
variable {X : Cx} {CX : CXT} {k : Nat} {f C : Addr} {fd : FuncData} {ps : List Str} {sp : Sp} {E : L2.St → XK} {x m : Str} {p pos apos : Pos} {e o : Expr} {es : List Expr} {ta : TE} {t : TA}
theorem run_makeAt {pins : List (Addr × Obj)} {σ : L2.St} {H : Hp} {s : Shared} {Q : VK} {us : List Value} {vs : List V} (M : Mk X.K C f) (F : FnOk X.prog X.w X.K X.mg X.base CX k f fd ps sp) (room : Room (k + 1) X.A) (bd : Binds X.K fd ps []) (go : PassesAt CX X σ (E σ))
    (I : Inv X pins σ H s) (r : Vals vs us) (want : ∀ x dx, H x = none → H dx = none → dx ≠ x → sp (.ref x :: vs) (upd (upd H dx (.own x)) x (.ins C dx [])) (fun v H2 => v = .non ∧ Q (.ref x) H2) (E σ)) :
    wpAny (model X.prog X.w) X.A (call (.ref C) us) (EP X pins σ Q) X.xe s := by
  let n := s.heap.objs.size
  have now := want (n + 1) n (I.hok.fresh (Nat.le_succ _)) (I.hok.fresh (Nat.le_refl _)) (Nat.ne_of_lt (Nat.lt_succ_self _))
  have J := Inv.made (C := C) I
  have both : Vals (V.ref (n + 1) :: vs) (Value.ref (n + 1) :: us) := .cons rfl r
  have many : ((Value.ref (n + 1) :: us) ++ []).length = ps.length := by
    rw [List.append_nil, ← both.length]
    exact F.len _ _ _ _ now
  have bt := bd _ (Value.ref (n + 1) :: us) J.kIn many
  rw [List.append_nil] at bt
  have ran := F.run _ X.stack _ _ ⟨Value.ref (n + 1) :: us, []⟩ (Value.ref (n + 1) :: us) _ _ (E σ) (room.make C us []) (J.env0.make C us []) bt both now
  refine wpAny_call (make_map (f := f) I.kIn M.makes M.init (beq_iff_eq.mp M.fn) (codeAny_mono ran fun res s' end_ => ?_))
  match res, end_ with
  | .error e, end_ => exact go pins _ _ e s' J end_
  | .ok (.ret u), end_ =>
    obtain ⟨v, H', L, rv, rfl, q3⟩ := J.after end_
    exact ⟨rv, V.ref (n + 1), H', L, rfl, q3⟩
  | .ok .next, end_ => exact False.elim end_
  | .ok .brk, end_ => exact False.elim end_
  | .ok .cont, end_ => exact False.elim end_
theorem pe_makeAt (M : Mk X.K C f) (F : FnOk X.prog X.w X.K X.mg X.base CX k f fd ps sp) (room : Room (k + 1) X.A) (hg : Gl X x) (hm : X.mg x = some (.ref C)) (bd : Binds X.K fd ps []) (go : ∀ σ, PassesAt CX X σ (E σ))
    (ha : PA X (e :: es) t) (hdb : (x == ("__debug__" : Str)) = false := by decide) (he : starEach (e :: es) X.env = (false, eval e X.env) :: starEach es X.env := by rfl) (hpl : (backTo pos (starEach es X.env)).any (·.1) = false := by rfl) :
    PE X (.Call (.Name x p) (e :: es) [] pos) (tMakeAt C sp E t) :=
  ⟨fun pins s σ H Q I want => wpAny_Call_Name_kw (ld_glob I hg hm (PySem.W.callWith_K (h₀ := X.base) I.ok.mod.kin M.kp (thn (ha.run pos pins s σ H _ I want) fun us s1 ⟨vs, H1, J, r, q⟩ => ⟨J.kIn, run_makeAt M F room bd (go σ) J r q⟩) he hpl) hdb)⟩
theorem pe_methAt {pl : Sem Bool} (he : PE X o ta) (c : Cls X.K C) (hm : Meth X.K C m f) (F : FnOk X.prog X.w X.K X.mg X.base CX k f fd ps sp) (room : Room k X.A) (bd : Binds X.K fd ps []) (go : ∀ σ, PassesAt CX X σ (E σ)) (ha : PA X (e :: es) t)
    (hst : starEach (e :: es) X.env = (false, eval e X.env) :: starEach es X.env := by rfl) (hpl : (backTo pos (starEach es X.env)).any (·.1) = false := by rfl)
    (ht : eval (.Call (.Attribute o m apos) (e :: es) [] pos) X.env = (eval o X.env >>= fun ov => standAt apos.atName >>= fun _ => holding [ov] (getMethod ov m pl) >>= fun q => callWith pos q.1 q.2 (backTo pos (starEach (e :: es) X.env)) (backToKw pos (keywordEach [] X.env))) := by rfl) :
    PE X (.Call (.Attribute o m apos) (e :: es) [] pos) (tMethAt C m sp E ta t) := by
  refine ⟨fun pins s σ H Q I want => PySem.W.methodCall_KW (pl := pl) (thn (he.run pins s σ H _ I want) fun u s1 ⟨y, H1, J, ry, rest⟩ => ?_) ht⟩
  obtain ⟨a, dx, fs, rfl, ea, l, q⟩ := rest
  cases ry
  refine getmeth_ok J ea c hm l (PySem.W.callWith_K (first := [.ref a]) (h₀ := X.base) J.ok.mod.kin hm.kp (thn (ha.run pos pins s1 σ H1 _ J q) fun us s2 ⟨vs, H2, L, r, q2⟩ => ⟨L.kIn, ?_⟩) hst hpl)
  exact run_fnS (us := .ref a :: us) (vs := .ref a :: vs) F room bd (go σ) L (.cons rfl r) q2
end
/-! ### == by an own __eq__, either answer -/
def rEqO (C : Addr) (sp : Sp) : R2 := fun x y H Q => ∃ (a b dx dy : Addr) (fs gs : List (Str × V)), x = .ref a ∧ y = .ref b ∧ H a = some (.ins C dx fs) ∧ H b = some (.ins C dy gs) ∧ sp [.ref a, .ref b] H (fun v H' => ∃ r, v = .bl r ∧ Q (.bl r) H') E0
theorem op_eqO {X : Cx} {k : Nat} {f C : Addr} {fd : FuncData} {ps : List Str} {sp : Sp} (F : FnOk X.prog X.w X.K X.mg X.base CX0 k f fd ps sp) (own : PySem.W.findIn X.K (.ref C) "__eq__" = some (some (.ref f))) (fun_ : PySem.W.isFn X.K (.ref f) = true)
    (bd : Binds X.K fd ps []) (room : Room k X.A) : OpR X (compareOp .Eq) (rEqO C sp) := by
  rintro pins s σ H x y v u Q I rx ry ⟨a, b, dx, dy, fs, gs, rfl, rfl, ea, eb, want⟩
  cases rx
  cases ry
  obtain ⟨_, ja, _⟩ := ins_get I.hok ea
  obtain ⟨_, jb, _⟩ := ins_get I.hok eb
  obtain ⟨_, la, _⟩ := ja.look
  obtain ⟨_, lb, _⟩ := jb.look
  obtain ⟨_, frs_⟩ := I.fr
  show wpAny _ _ (richCompare .Eq (.ref a) (.ref b)) _ _ _
  refine PySem.W.cmp_K (op := .Eq) (tb := .ref C) room.units0 frs_ I.ok.mod.kin la lb.type (by simp [PySem.W.notFirst]) own fun_ ?_
  refine wpAny_mono (run_fn (vs := [.ref a, .ref b]) (us := [.ref a, .ref b]) F room bd .nil pass0 I (.cons rfl (.cons rfl .nil)) want) (fun u s' got => ?_) fun _ _ z => z
  obtain ⟨v, H', J, rv, r, rfl, q⟩ := got
  cases rv
  exact ⟨.bl r, H', J, rfl, q⟩
end Td
/-! The head's look for a program with a method that opens with super().__init__(). -/
namespace Td
open PySem PySem.Spec PyProof.Rows L2
def frU (n : Nat) (g : Addr → Option Obj) : PySem.W.Frag := He.frT g (cStatics :: He.asD g n)
abbrev FnC : Type := Option (Str × Str × Arguments × FuncBody × Scope × Addr × List Str × Addr)
/-- a function's text, its closure by names alone -/
def fnC (K : PySem.W.Frag) (p : Str × Option Str) : FnC := match K.lookup (He.fAd K p) with
  | some ⟨_, _, .func fd, _⟩ => some (fd.name, fd.qualname, fd.params, fd.body, fd.scope, fd.globals, fd.closure.map (·.1), fd.builtins)
  | _ => none
structure SupD where
  cls : Str
  oth : Str
  qual : Str
  file : Str
  params : Arguments
  body : List Stmt
  scope : Scope
def SupD.at_ (d : SupD) : Str × Option Str := (d.cls, some "__init__")
def SupD.val (d : SupD) : FnC := some ("__init__", d.qual, d.params, .stmts d.body, d.scope, mainGlobals, ["__class__"], builtinsNs)
def cellB (K : PySem.W.Frag) (d : SupD) (l : List (Str × Addr)) : Bool := match l with
  | [q] => (match K.lookup q.2 with
    | some ⟨_, _, .cell (some (.ref D)), _⟩ => decide (D = He.ga K d.cls)
    | _ => false)
  | _ => false
def noneB (v : Value) : Bool := match v with
  | .none => true
  | _ => false
def strB (x : Str) (v : Option Value) : Bool := match v with
  | some (.str f _) => x == f
  | _ => false
def fileB (K : PySem.W.Frag) (d : SupD) (v : Value) : Bool := match v with
  | .ref cda => (match K.lookup cda with
    | some ⟨_, _, .fields vs, _⟩ => strB d.file (vs[2]?)
    | _ => false)
  | _ => false
theorem cellB_ok {K : PySem.W.Frag} {d : SupD} {l : List (Str × Addr)} (h : cellB K d l = true) : ∃ x cc c1 c2 c4, l = [(x, cc)] ∧ K.lookup cc = some ⟨c1, c2, .cell (some (.ref (He.ga K d.cls))), c4⟩ := by
  unfold cellB at h
  split at h
  · rename_i q
    split at h
    · rename_i c1 c2 D c4 e
      exact ⟨q.1, q.2, c1, c2, c4, rfl, by rw [e, of_decide_eq_true h]⟩
    · cases h
  · cases h
theorem noneB_ok {v : Value} (h : noneB v = true) : v = .none := by
  cases v with
  | none => rfl
  | _ => cases h
theorem strB_ok {x : Str} {v : Option Value} (h : strB x v = true) : ∃ f t, v = some (.str f t) ∧ (x == f) = true := by
  unfold strB at h
  split at h
  · rename_i f t
    exact ⟨f, t, rfl, h⟩
  · cases h
theorem fileB_ok {K : PySem.W.Frag} {d : SupD} {v : Value} (h : fileB K d v = true) : ∃ cda f1 f2 vs f4 f t, v = .ref cda ∧ K.lookup cda = some ⟨f1, f2, .fields vs, f4⟩ ∧ vs[2]? = some (.str f t) ∧ (d.file == f) = true := by
  unfold fileB at h
  split at h
  · rename_i cda
    split at h
    · rename_i f1 f2 vs f4 e
      obtain ⟨f, t, h1, h2⟩ := strB_ok h
      exact ⟨cda, f1, f2, vs, f4, f, t, rfl, e, h1, h2⟩
    · cases h
  · cases h
def supFn (K : PySem.W.Frag) (d : SupD) : Bool := match K.lookup (He.fAd K d.at_) with
  | some ⟨_, _, .func fd, _⟩ => cellB K d fd.closure && (noneB fd.defaults && (fileB K d fd.code && PySem.W.codeIn K fd.code d.qual))
  | _ => false
def supB (K : PySem.W.Frag) (d : SupD) : Bool := supFn K d && ((PySem.W.clsIn K (He.ga K d.cls)).isSome && (decide (PySem.W.mroIn K (He.ga K d.cls) (.ref (He.ga K d.cls)) = some true) && (He.eqO (PySem.W.ks_superIn K (He.ga K d.cls) (He.ga K d.cls) "__init__") (some (some (.ref (He.fAd K (d.oth, some "__init__"))))) &&
  (decide (PySem.W.typeIn K (.ref (He.fAd K (d.oth, some "__init__"))) = some (.type "function")) && (PySem.W.fnIn K (He.fAd K (d.oth, some "__init__")) && (He.eqO (PySem.W.nsIn K cStatics "thirdparty.any") (some none) && (He.eqO (PySem.W.nsIn K mainGlobals "super") (some none) && PySem.W.keepIn K (.ref (He.fAd K d.at_)))))))))
theorem sup_of {P : Program} {K : PySem.W.Frag} {d : SupD} {st : Stmt} (hp : d.params = defArgs st) (hb : d.body = defBody st) (hs : d.scope = defScope st) (hf : P.main.file = d.file) (e : fnC K d.at_ = d.val) (c : supB K d = true) :
    ∃ fd, Sup P K d.qual st (He.fAd K d.at_) (He.ga K d.cls) (He.fAd K (d.oth, some "__init__")) fd := by
  obtain ⟨c1, c⟩ := He.ba c
  obtain ⟨c2, c⟩ := He.ba c
  obtain ⟨c3, c⟩ := He.ba c
  obtain ⟨c4, c⟩ := He.ba c
  obtain ⟨c5, c⟩ := He.ba c
  obtain ⟨c6, c⟩ := He.ba c
  obtain ⟨c7, c⟩ := He.ba c
  obtain ⟨c8, c9⟩ := He.ba c
  unfold supFn at c1
  unfold fnC at e
  cases q : K.lookup (He.fAd K d.at_) with
  | none => rw [q] at e; cases e
  | some o =>
    obtain ⟨oc, od, dt, osl⟩ := o
    rw [q] at e c1
    cases dt with
    | func fd =>
      obtain ⟨n1, n2, n3, n4, n5, n6, n7, n8, n9, n10, n11, n12, n13, n14, n15⟩ := fd
      have e2 : (some (n1, n2, n3, n4, n5, n6, n7.map (·.1), n15) : FnC) = d.val := e
      unfold SupD.val at e2
      simp only [Option.some.injEq, Prod.mk.injEq] at e2
      obtain ⟨h1, h2, h3, h4, h5, h6, h7, h8⟩ := e2
      obtain ⟨d1, d2⟩ := He.ba c1
      obtain ⟨d3, d4⟩ := He.ba d2
      obtain ⟨d5, d6⟩ := He.ba d4
      obtain ⟨x1, cc, k1, k2, k4, hl, hcc⟩ := cellB_ok d1
      obtain ⟨cda, f1, f2, vs, f4, f, tf, hcode, hcda, hv, hfile⟩ := fileB_ok d5
      have hd := noneB_ok d3
      dsimp only at hl hcode hd d6
      subst hl
      have hx : x1 = "__class__" := by simpa using h7
      subst hx h1 h2 h3 h4 h5 h6 h8 hcode hd
      obtain ⟨cd, hcd⟩ := Option.isSome_iff_exists.mp c2
      refine ⟨_, ⟨oc, od, osl, n9, n10, n11, n12, n14, cc, cda, f1, f2, vs, f4, f, tf, k1, k2, k4, rfl, ?_, d6, hcda, hv, by rw [hf]; exact hfile, hcc⟩, ⟨cd, hcd⟩, of_decide_eq_true c3, He.eqO_ok c4, of_decide_eq_true c5, c6, He.eqO_ok c7, He.eqO_ok c8, c9⟩
      rw [← hp, ← hb, ← hs]
      exact q
    | _ => cases e
/-! ### the Hook -/
abbrev AlU : Type := He.AlT × (Bool × List FnC)
def obsU (n : Nat) (fa : List He.Fa) (fn : List He.DefD) (ts : List He.Tab) (us : List SupD) (ex : PySem.W.Frag → Bool) (g : Addr → Option Obj) : AlU := (He.obsT fa fn ts (frU n g), (ex (frU n g) && us.all (supB (frU n g)), us.map fun d => fnC (frU n g) d.at_))
def valU (fn : List He.DefD) (ts : List He.Tab) (us : List SupD) (w : World) : AlU := (He.valT fn ts w, (true, us.map SupD.val))
structure SaysU (fa : List He.Fa) (fn : List He.DefD) (ts : List He.Tab) (us : List SupD) (ex : PySem.W.Frag → Bool) (w : World) (K : PySem.W.Frag) : Prop where
  t : He.SaysT fa fn ts w K
  more : ex K = true
  us : ∀ d ∈ us, supB K d = true ∧ fnC K d.at_ = d.val
theorem saysU_of {n : Nat} {fa : List He.Fa} {fn : List He.DefD} {ts : List He.Tab} {us : List SupD} {ex : PySem.W.Frag → Bool} {w : World} {g : Addr → Option Obj} (e : obsU n fa fn ts us ex g = valU fn ts us w) : SaysU fa fn ts us ex w (frU n g) := by
  have e1 : He.obsT fa fn ts (frU n g) = He.valT fn ts w := congrArg (fun z : AlU => z.1) e
  have e2 : (ex (frU n g) && us.all (supB (frU n g))) = true := congrArg (fun z : AlU => z.2.1) e
  have e3 : (us.map fun d => fnC (frU n g) d.at_) = us.map SupD.val := congrArg (fun z : AlU => z.2.2) e
  obtain ⟨a, b⟩ := He.ba e2
  refine ⟨e1, a, fun d hd => ⟨List.all_eq_true.mp b d hd, ?_⟩⟩
  exact List.map_inj_left.mp e3 d hd
def hookU (n : Nat) (fa : List He.Fa) (fn : List He.DefD) (ts : List He.Tab) (us : List SupD) (ex : PySem.W.Frag → Bool) : PySem.W.Hook where
  α := AlU
  obs := fun s => obsU n fa fn ts us ex s.heap.get?
  val := fun w => valU fn ts us w
  says := fun w h => ∃ K : PySem.W.Frag, K.In h ∧ SaysU fa fn ts us ex w K
  of := fun _ _ e => ⟨_, He.frT_in, saysU_of e⟩
  keeps := fun _ _ _ ⟨K, hK, c⟩ k => ⟨K, PySem.W.Frag.In.keeps hK k, c⟩
theorem obsU_eq {n : Nat} {fa : List He.Fa} {fn : List He.DefD} {ts : List He.Tab} {us : List SupD} {ex : PySem.W.Frag → Bool} {g : Addr → Option Obj} {s : Shared} (h : ∀ a, g a = s.heap.get? a) : obsU n fa fn ts us ex g = (hookU n fa fn ts us ex).obs s := by
  have e : g = s.heap.get? := funext h
  rw [e] <;> rfl
end Td
/-! The head's look for own exceptions of one field. -/
namespace Td
open PySem PySem.Spec PyProof.Rows L2
def mroVE (C : Addr) : List Value → Bool
  | .ref D :: bm => decide (D = C) && PySem.HandSPX.refsVE bm
  | _ => false
theorem mroVE_ok {C : Addr} {l : List Value} (h : mroVE C l = true) : ∃ bm, l = .ref C :: bm ∧ PySem.HandSPX.refsVE bm = true := by
  unfold mroVE at h
  split at h
  · rename_i D bm
    obtain ⟨h1, h2⟩ := He.ba h
    exact ⟨bm, by rw [of_decide_eq_true h1], h2⟩
  · cases h
def newVE : List (Option Value) → Bool
  | [_, _, _, _, some (.builtin n), _] => n == "ValueError.__new__"
  | _ => false
theorem newVE_ok {l : List (Option Value)} (h : newVE l = true) : ∃ k0 k1 k2 k3 k5, l = [k0, k1, k2, k3, some (.builtin "ValueError.__new__"), k5] := by
  unfold newVE at h
  split at h
  · rename_i k0 k1 k2 k3 n k5
    exact ⟨k0, k1, k2, k3, k5, by rw [of_decide_eq_true h]⟩
  · cases h
def oexCls (K : PySem.W.Frag) (C : Addr) : Bool := match K.lookup C with
  | some ⟨.type "type", _, .cls cd, sl⟩ => cd.hasDict && (!cd.hasDel && (mroVE C cd.mro && newVE sl.toList))
  | _ => false
def oexB (K : PySem.W.Frag) (C : Addr) : Bool := oexCls K C && (He.eqO (PySem.W.findIn K (.ref C) "__setattr__") (some (some (.builtin "object.__setattr__"))) && (decide (PySem.W.subIn K (.ref C) (.type "BaseException") = some true) && (decide (PySem.W.typeIn K (.ref C) = some (.type "type")) && PySem.W.keepIn K (.ref C))))
theorem oexB_ok {K : PySem.W.Frag} {C : Addr} (h : oexB K C = true) : OexC K C := by
  obtain ⟨c1, h⟩ := He.ba h
  obtain ⟨c2, h⟩ := He.ba h
  obtain ⟨c3, h⟩ := He.ba h
  obtain ⟨c4, c5⟩ := He.ba h
  refine ⟨?_, He.eqO_ok c2, of_decide_eq_true c3, of_decide_eq_true c4, c5⟩
  unfold oexCls at c1
  split at c1
  · rename_i dd cd sl e
    obtain ⟨d1, c1⟩ := He.ba c1
    obtain ⟨d2, c1⟩ := He.ba c1
    obtain ⟨d3, d4⟩ := He.ba c1
    obtain ⟨bm, em, hm⟩ := mroVE_ok d3
    obtain ⟨k0, k1, k2, k3, k5, es⟩ := newVE_ok d4
    obtain ⟨nm, bs, mro, ns, qn, hd, sn, sb, ab, col, del⟩ := cd
    obtain ⟨sl⟩ := sl
    dsimp only at d1 d2 em es
    subst em es d1
    have d2' : del = false := by simpa using d2
    subst d2'
    exact ⟨nm, qn, ns, bs, bm, sn, sb, ab, col, dd, k0, k1, k2, k3, k5, e, hm⟩
  · cases c1
/-- an own exception class, its __init__ and its one field -/
def excB (K : PySem.W.Frag) (x f : Str) : Bool := oexB K (He.ga K x) && (He.eqO (PySem.W.findIn K (.ref (He.ga K x)) "__init__") (some (some (.ref (He.fAd K (x, some "__init__"))))) && (decide (PySem.W.typeIn K (.ref (He.fAd K (x, some "__init__"))) = some (.type "function")) && (He.eqO (PySem.W.findIn K (.ref (He.ga K x)) f) (some none) && xfB K (He.ga K x))))
theorem excB_ok {K : PySem.W.Frag} {x f : Str} (h : excB K x f = true) : OexC K (He.ga K x) ∧ PySem.W.findIn K (.ref (He.ga K x)) "__init__" = some (some (.ref (He.fAd K (x, some "__init__")))) ∧ PySem.W.typeIn K (.ref (He.fAd K (x, some "__init__"))) = some (.type "function") ∧
    PySem.W.findIn K (.ref (He.ga K x)) f = some none ∧ XfC K (He.ga K x) := by
  obtain ⟨c1, h⟩ := He.ba h
  obtain ⟨c2, h⟩ := He.ba h
  obtain ⟨c3, h⟩ := He.ba h
  obtain ⟨c4, c5⟩ := He.ba h
  exact ⟨oexB_ok c1, He.eqO_ok c2, of_decide_eq_true c3, He.eqO_ok c4, xfB_ok c5⟩
end Td
/-! The head's look for isinstance of caught errors, of own objects, and for own ==. -/
namespace Td
open PySem PySem.Spec PyProof.Rows L2
def clsB (K : PySem.W.Frag) (C : Addr) : Bool := He.eqO (PySem.W.findIn K (.ref C) "__class__") (some (some (.builtin "object.__class__"))) && (He.eqO (PySem.W.specialIn K (.builtin "object.__class__") "__get__") (some (some (.builtin "getset_descriptor.__get__"))) &&
  (decide (PySem.W.takesIn K (.builtin "object.__class__") = some true) && decide (PySem.W.mroIn K C (.type "object") = some true)))
def askB (K : PySem.W.Frag) (C : Addr) : Bool := clsB K C && (He.eqO (PySem.W.findIn K (.ref C) "__getattribute__") (some (some (.builtin "BaseException.__getattribute__"))) && (He.eqO (PySem.W.findIn K (.ref C) "__getattr__") (some none) &&
  (decide (PySem.W.subIn K (.ref C) (.type "BaseException") = some true) && PySem.W.hasDictIn K C)))
theorem askB_ok {K : PySem.W.Frag} {C : Addr} (h : askB K C = true) : ExcC K C := by
  obtain ⟨c0, h⟩ := He.ba h
  obtain ⟨c1, h⟩ := He.ba h
  obtain ⟨c2, h⟩ := He.ba h
  obtain ⟨c3, c4⟩ := He.ba h
  obtain ⟨d1, d⟩ := He.ba c0
  obtain ⟨d2, d⟩ := He.ba d
  obtain ⟨d3, d4⟩ := He.ba d
  exact ⟨He.eqO_ok c1, He.eqO_ok c2, of_decide_eq_true c3, c4, He.eqO_ok d1, He.eqO_ok d2, of_decide_eq_true d3, of_decide_eq_true d4⟩
def ownB (K : PySem.W.Frag) (C : Addr) : Bool := clsB K C && decide (PySem.W.kitOne K (.ref C) (.ref C) = some true)
theorem ownB_ok {K : PySem.W.Frag} {C : Addr} (l : Cls K C) (h : ownB K C = true) : C8.InsC K C := by
  obtain ⟨c0, c1⟩ := He.ba h
  obtain ⟨d1, d⟩ := He.ba c0
  obtain ⟨d2, d⟩ := He.ba d
  obtain ⟨d3, d4⟩ := He.ba d
  exact ⟨l, He.eqO_ok d1, He.eqO_ok d2, of_decide_eq_true d3, of_decide_eq_true d4, of_decide_eq_true c1⟩
def kitB (K : PySem.W.Frag) (t u : Value) (b : Bool) : Bool := decide (PySem.W.kitOne K t u = some b)
end Td
namespace K01
open PySem PySem.Spec PyProof.Rows L2 Td
def top (i : Nat) : Stmt := PySem.Challenge.pw_toldonward_k01_program_keeps_its_parts.main.body.getD i (.Pass ⟨0, 0, 0, 0⟩)
abbrev s_is_name : Stmt := top 3
abbrev N_is_name : List Str := ["value", "letter"]
theorem sc_is_name : FnScope N_is_name ["value"] (defScope s_is_name) := ⟨rfl, rfl, rfl, by decide +kernel, rfl, by decide +kernel, by decide +kernel⟩
abbrev s_are_names : Stmt := top 4
abbrev N_are_names : List Str := ["value", "least", "most", "item"]
theorem sc_are_names : FnScope N_are_names ["value", "least", "most"] (defScope s_are_names) := ⟨rfl, rfl, rfl, by decide +kernel, rfl, by decide +kernel, by decide +kernel⟩
abbrev s_are_named_pairs : Stmt := top 5
abbrev N_are_named_pairs : List Str := ["value", "most", "taken", "before", "pair"]
theorem sc_are_named_pairs : FnScope N_are_named_pairs ["value", "most", "taken"] (defScope s_are_named_pairs) := ⟨rfl, rfl, rfl, by decide +kernel, rfl, by decide +kernel, by decide +kernel⟩
abbrev s_InvalidProgram_init : Stmt := inClass (top 8) 0
abbrev N_InvalidProgram_init : List Str := ["self", "part", "path"]
theorem sc_InvalidProgram_init : FnScope N_InvalidProgram_init ["self", "part", "path"] (defScope s_InvalidProgram_init) := ⟨rfl, rfl, rfl, by decide +kernel, rfl, by decide +kernel, by decide +kernel⟩
abbrev s_InvalidPath_init : Stmt := inClass (top 9) 0
abbrev N_InvalidPath_init : List Str := ["self", "path"]
theorem sc_InvalidPath_init : FnScope N_InvalidPath_init ["self", "path"] (defScope s_InvalidPath_init) := ⟨rfl, rfl, rfl, by decide +kernel, rfl, by decide +kernel, by decide +kernel⟩
abbrev s_UnknownCell_init : Stmt := inClass (top 10) 0
abbrev N_UnknownCell_init : List Str := ["self", "name"]
theorem sc_UnknownCell_init : FnScope N_UnknownCell_init ["self", "name"] (defScope s_UnknownCell_init) := ⟨rfl, rfl, rfl, by decide +kernel, rfl, by decide +kernel, by decide +kernel⟩
abbrev s_Scope_init : Stmt := inClass (top 14) 0
abbrev N_Scope_init : List Str := ["self", "kind", "words", "sources", "readable"]
theorem sc_Scope_init : FnScope N_Scope_init ["self", "kind", "words", "sources", "readable"] (defScope s_Scope_init) := ⟨rfl, rfl, rfl, by decide +kernel, rfl, by decide +kernel, by decide +kernel⟩
abbrev s_is_read_row : Stmt := top 15
abbrev N_is_read_row : List Str := ["row", "scope"]
theorem sc_is_read_row : FnScope N_is_read_row ["row", "scope"] (defScope s_is_read_row) := ⟨rfl, rfl, rfl, by decide +kernel, rfl, by decide +kernel, by decide +kernel⟩
abbrev s_is_put_row : Stmt := top 16
abbrev N_is_put_row : List Str := ["row", "scope"]
theorem sc_is_put_row : FnScope N_is_put_row ["row", "scope"] (defScope s_is_put_row) := ⟨rfl, rfl, rfl, by decide +kernel, rfl, by decide +kernel, by decide +kernel⟩
abbrev s_is_if_row : Stmt := top 17
abbrev N_is_if_row : List Str := ["row", "scope"]
theorem sc_is_if_row : FnScope N_is_if_row ["row", "scope"] (defScope s_is_if_row) := ⟨rfl, rfl, rfl, by decide +kernel, rfl, by decide +kernel, by decide +kernel⟩
abbrev s_is_slot_row : Stmt := top 18
abbrev N_is_slot_row : List Str := ["row", "scope"]
theorem sc_is_slot_row : FnScope N_is_slot_row ["row", "scope"] (defScope s_is_slot_row) := ⟨rfl, rfl, rfl, by decide +kernel, rfl, by decide +kernel, by decide +kernel⟩
abbrev s_is_write_row : Stmt := top 19
abbrev N_is_write_row : List Str := ["row", "scope"]
theorem sc_is_write_row : FnScope N_is_write_row ["row", "scope"] (defScope s_is_write_row) := ⟨rfl, rfl, rfl, by decide +kernel, rfl, by decide +kernel, by decide +kernel⟩
abbrev s_check_of : Stmt := top 22
abbrev N_check_of : List Str := ["kind", "form"]
theorem sc_check_of : FnScope N_check_of ["kind", "form"] (defScope s_check_of) := ⟨rfl, rfl, rfl, by decide +kernel, rfl, by decide +kernel, by decide +kernel⟩
abbrev s_is_valid_row : Stmt := top 23
abbrev N_is_valid_row : List Str := ["row", "scope", "depth", "fits"]
theorem sc_is_valid_row : FnScope N_is_valid_row ["row", "scope", "depth"] (defScope s_is_valid_row) := ⟨rfl, rfl, rfl, by decide +kernel, rfl, by decide +kernel, by decide +kernel⟩
abbrev s_first_wrong_path : Stmt := top 24
abbrev N_first_wrong_path : List Str := ["rows", "scope", "base", "depth", "place", "row", "path", "branch", "wrong"]
theorem sc_first_wrong_path : FnScope N_first_wrong_path ["rows", "scope", "base", "depth"] (defScope s_first_wrong_path) := ⟨rfl, rfl, rfl, by decide +kernel, rfl, by decide +kernel, by decide +kernel⟩
abbrev s_paths_of_rows : Stmt := top 25
abbrev N_paths_of_rows : List Str := ["rows", "base", "paths", "place", "row", "path", "branch"]
theorem sc_paths_of_rows : FnScope N_paths_of_rows ["rows", "base"] (defScope s_paths_of_rows) := ⟨rfl, rfl, rfl, by decide +kernel, rfl, by decide +kernel, by decide +kernel⟩
abbrev s_Program_init : Stmt := inClass (top 33) 0
abbrev N_Program_init : List Str := ["self", "words", "sources", "derived", "effects"]
theorem sc_Program_init : FnScope N_Program_init ["self", "words", "sources", "derived", "effects"] (defScope s_Program_init) := ⟨rfl, rfl, rfl, by decide +kernel, rfl, by decide +kernel, by decide +kernel⟩
abbrev s_Program_eq : Stmt := inClass (top 33) 1
abbrev N_Program_eq : List Str := ["self", "other"]
theorem sc_Program_eq : FnScope N_Program_eq ["self", "other"] (defScope s_Program_eq) := ⟨rfl, rfl, rfl, by decide +kernel, rfl, by decide +kernel, by decide +kernel⟩
abbrev s_Program_cells : Stmt := inClass (top 33) 2
abbrev N_Program_cells : List Str := ["self"]
theorem sc_Program_cells : FnScope N_Program_cells ["self"] (defScope s_Program_cells) := ⟨rfl, rfl, rfl, by decide +kernel, rfl, by decide +kernel, by decide +kernel⟩
abbrev s_Program_derived_names : Stmt := inClass (top 33) 3
abbrev N_Program_derived_names : List Str := ["self"]
theorem sc_Program_derived_names : FnScope N_Program_derived_names ["self"] (defScope s_Program_derived_names) := ⟨rfl, rfl, rfl, by decide +kernel, rfl, by decide +kernel, by decide +kernel⟩
abbrev s_Program_effect_names : Stmt := inClass (top 33) 4
abbrev N_Program_effect_names : List Str := ["self"]
theorem sc_Program_effect_names : FnScope N_Program_effect_names ["self"] (defScope s_Program_effect_names) := ⟨rfl, rfl, rfl, by decide +kernel, rfl, by decide +kernel, by decide +kernel⟩
abbrev s_Program_body : Stmt := inClass (top 33) 5
abbrev N_Program_body : List Str := ["self", "name", "own_name", "rows"]
theorem sc_Program_body : FnScope N_Program_body ["self", "name"] (defScope s_Program_body) := ⟨rfl, rfl, rfl, by decide +kernel, rfl, by decide +kernel, by decide +kernel⟩
abbrev s_Program_row_paths : Stmt := inClass (top 33) 6
abbrev N_Program_row_paths : List Str := ["self", "paths", "kind", "pairs", "index", "_", "rows"]
theorem sc_Program_row_paths : FnScope N_Program_row_paths ["self"] (defScope s_Program_row_paths) := ⟨rfl, rfl, rfl, by decide +kernel, rfl, by decide +kernel, by decide +kernel⟩
abbrev s_Program_row_at : Stmt := inClass (top 33) 7
abbrev N_Program_row_at : List Str := ["self", "path"]
theorem sc_Program_row_at : FnScope N_Program_row_at ["self", "path"] (defScope s_Program_row_at) := ⟨rfl, rfl, rfl, by decide +kernel, rfl, by decide +kernel, by decide +kernel⟩
abbrev s_Program_with_row : Stmt := inClass (top 33) 8
abbrev N_Program_with_row : List Str := ["self", "path", "row"]
theorem sc_Program_with_row : FnScope N_Program_with_row ["self", "path", "row"] (defScope s_Program_with_row) := ⟨rfl, rfl, rfl, by decide +kernel, rfl, by decide +kernel, by decide +kernel⟩
abbrev s_names_of : Stmt := top 34
abbrev N_names_of : List Str := ["pairs", "name", "_"]
theorem sc_names_of : FnScope N_names_of ["pairs"] (defScope s_names_of) := ⟨rfl, rfl, rfl, by decide +kernel, rfl, by decide +kernel, by decide +kernel⟩
abbrev s_check_parts : Stmt := top 35
abbrev N_check_parts : List Str := ["words", "sources", "derived", "effects"]
theorem sc_check_parts : FnScope N_check_parts ["words", "sources", "derived", "effects"] (defScope s_check_parts) := ⟨rfl, rfl, rfl, by decide +kernel, rfl, by decide +kernel, by decide +kernel⟩
abbrev s_check_bodies : Stmt := top 36
abbrev N_check_bodies : List Str := ["words", "sources", "derived", "effects", "readable", "index", "name", "rows", "_"]
theorem sc_check_bodies : FnScope N_check_bodies ["words", "sources", "derived", "effects"] (defScope s_check_bodies) := ⟨rfl, rfl, rfl, by decide +kernel, rfl, by decide +kernel, by decide +kernel⟩
abbrev s_check_body : Stmt := top 37
abbrev N_check_body : List Str := ["rows", "scope", "index", "base", "wrong"]
theorem sc_check_body : FnScope N_check_body ["rows", "scope", "index"] (defScope s_check_body) := ⟨rfl, rfl, rfl, by decide +kernel, rfl, by decide +kernel, by decide +kernel⟩
abbrev s_law_state : Stmt := top 39
abbrev N_law_state : List Str := ["_law_script"]
theorem sc_law_state : FnScope N_law_state ["_law_script"] (defScope s_law_state) := ⟨rfl, rfl, rfl, by decide +kernel, rfl, by decide +kernel, by decide +kernel⟩
abbrev s_law_draw : Stmt := top 40
abbrev N_law_draw : List Str := ["_law_state_here", "_law_many_here", "_law_cell", "_law_digit", "_law_one", "_law_two", "_law_three"]
theorem sc_law_draw : FnScope N_law_draw ["_law_state_here", "_law_many_here"] (defScope s_law_draw) := ⟨rfl, rfl, rfl, by decide +kernel, rfl, by decide +kernel, by decide +kernel⟩
abbrev s_law_names : Stmt := top 41
abbrev N_law_names : List Str := ["_law_state_here", "_law_many_here", "_law_place", "_law_first", "_law_shared", "_law_base", "_law_letters", "_law_names_here", "_law_k", "_law_other_here", "_law_size", "_law_name", "_law_at"]
theorem sc_law_names : FnScope N_law_names ["_law_state_here", "_law_many_here"] (defScope s_law_names) := ⟨rfl, rfl, rfl, by decide +kernel, rfl, by decide +kernel, by decide +kernel⟩
abbrev s_law_many : Stmt := top 42
abbrev N_law_many : List Str := ["_law_rows_here", "_law_total", "_law_row_here"]
theorem sc_law_many : FnScope N_law_many ["_law_rows_here"] (defScope s_law_many) := ⟨rfl, rfl, rfl, by decide +kernel, rfl, by decide +kernel, by decide +kernel⟩
abbrev s_law_row : Stmt := top 43
abbrev N_law_row : List Str := ["_law_state_here", "_law_shape", "_law_kind", "_law_slot", "_law_cell"]
theorem sc_law_row : FnScope N_law_row ["_law_state_here", "_law_shape"] (defScope s_law_row) := ⟨rfl, rfl, rfl, by decide +kernel, rfl, by decide +kernel, by decide +kernel⟩
abbrev s_law_rows : Stmt := top 44
abbrev N_law_rows : List Str := ["_law_state_here", "_law_shape", "_law_depth", "_law_room", "_law_rows_here", "_law_left", "_law_turn", "_law_slot", "_law_cell", "_law_word", "_law_yes", "_law_no"]
theorem sc_law_rows : FnScope N_law_rows ["_law_state_here", "_law_shape", "_law_depth", "_law_room"] (defScope s_law_rows) := ⟨rfl, rfl, rfl, by decide +kernel, rfl, by decide +kernel, by decide +kernel⟩
abbrev s_law_parts : Stmt := top 45
abbrev N_law_parts : List Str := ["_law_state_here", "_law_sizes", "_law_peeks", "_law_writes", "_law_many_words", "_law_many_sources", "_law_many_derived", "_law_many_effects", "_law_words", "_law_names_here", "_law_slots", "_law_sources", "_law_shape", "_law_derived", "_law_k", "_law_name", "_law_rows_here", "_law_effects"]
theorem sc_law_parts : FnScope N_law_parts ["_law_state_here", "_law_sizes", "_law_peeks", "_law_writes"] (defScope s_law_parts) := ⟨rfl, rfl, rfl, by decide +kernel, rfl, by decide +kernel, by decide +kernel⟩
abbrev s_law_all_paths : Stmt := top 46
abbrev N_law_all_paths : List Str := ["_law_rows_here", "_law_path", "_law_found", "_law_k"]
theorem sc_law_all_paths : FnScope N_law_all_paths ["_law_rows_here", "_law_path"] (defScope s_law_all_paths) := ⟨rfl, rfl, rfl, by decide +kernel, rfl, by decide +kernel, by decide +kernel⟩
abbrev s_law_paths : Stmt := top 47
abbrev N_law_paths : List Str := ["_law_parts_here", "_law_found", "_law_k"]
theorem sc_law_paths : FnScope N_law_paths ["_law_parts_here"] (defScope s_law_paths) := ⟨rfl, rfl, rfl, by decide +kernel, rfl, by decide +kernel, by decide +kernel⟩
abbrev s_law_other : Stmt := top 48
abbrev N_law_other : List Str := ["_law_parts_here", "_law_part", "_law_state_here", "_law_changed", "_law_place", "_law_name", "_law_rows_here"]
theorem sc_law_other : FnScope N_law_other ["_law_parts_here", "_law_part", "_law_state_here"] (defScope s_law_other) := ⟨rfl, rfl, rfl, by decide +kernel, rfl, by decide +kernel, by decide +kernel⟩
abbrev s_law_unknown : Stmt := top 49
abbrev N_law_unknown : List Str := ["_law_program", "_law_name", "_law_found", "e"]
theorem sc_law_unknown : FnScope N_law_unknown ["_law_program", "_law_name"] (defScope s_law_unknown) := ⟨rfl, rfl, rfl, by decide +kernel, rfl, by decide +kernel, by decide +kernel⟩
abbrev s_law_is_name : Stmt := top 50
abbrev N_law_is_name : List Str := ["_law_value", "_law_letter"]
theorem sc_law_is_name : FnScope N_law_is_name ["_law_value"] (defScope s_law_is_name) := ⟨rfl, rfl, rfl, by decide +kernel, rfl, by decide +kernel, by decide +kernel⟩
abbrev s_law_bad_name : Stmt := top 51
abbrev N_law_bad_name : List Str := ["_law_state_here", "_law_good", "_law_kind"]
theorem sc_law_bad_name : FnScope N_law_bad_name ["_law_state_here", "_law_good"] (defScope s_law_bad_name) := ⟨rfl, rfl, rfl, by decide +kernel, rfl, by decide +kernel, by decide +kernel⟩
abbrev s_law_bad_names : Stmt := top 52
abbrev N_law_bad_names : List Str := ["_law_state_here", "_law_names_here", "_law_most", "_law_kind", "_law_place", "_law_k"]
theorem sc_law_bad_names : FnScope N_law_bad_names ["_law_state_here", "_law_names_here", "_law_most"] (defScope s_law_bad_names) := ⟨rfl, rfl, rfl, by decide +kernel, rfl, by decide +kernel, by decide +kernel⟩
abbrev s_law_bad_pairs : Stmt := top 53
abbrev N_law_bad_pairs : List Str := ["_law_state_here", "_law_pairs", "_law_sources", "_law_most", "_law_kind", "_law_place", "_law_name", "_law_rows_here", "_law_pair", "_law_k"]
theorem sc_law_bad_pairs : FnScope N_law_bad_pairs ["_law_state_here", "_law_pairs", "_law_sources", "_law_most"] (defScope s_law_bad_pairs) := ⟨rfl, rfl, rfl, by decide +kernel, rfl, by decide +kernel, by decide +kernel⟩
abbrev s_law_names_good : Stmt := top 54
abbrev N_law_names_good : List Str := ["_law_value", "_law_least", "_law_most", "_law_seen", "_law_name"]
theorem sc_law_names_good : FnScope N_law_names_good ["_law_value", "_law_least", "_law_most"] (defScope s_law_names_good) := ⟨rfl, rfl, rfl, by decide +kernel, rfl, by decide +kernel, by decide +kernel⟩
abbrev s_law_pairs_good : Stmt := top 55
abbrev N_law_pairs_good : List Str := ["_law_value", "_law_most", "_law_taken", "_law_seen", "_law_pair"]
theorem sc_law_pairs_good : FnScope N_law_pairs_good ["_law_value", "_law_most", "_law_taken"] (defScope s_law_pairs_good) := ⟨rfl, rfl, rfl, by decide +kernel, rfl, by decide +kernel, by decide +kernel⟩
abbrev s_law_first_fault : Stmt := top 56
abbrev N_law_first_fault : List Str := ["_law_parts_here", "_law_k", "_law_pair"]
theorem sc_law_first_fault : FnScope N_law_first_fault ["_law_parts_here"] (defScope s_law_first_fault) := ⟨rfl, rfl, rfl, by decide +kernel, rfl, by decide +kernel, by decide +kernel⟩
abbrev s_law_first_part : Stmt := top 57
abbrev N_law_first_part : List Str := ["_law_script", "_law_state_here", "_law_part", "_law_parts_here", "_law_program", "_law_derived", "_law_effects", "_law_pair", "_law_source", "_law_turn", "_law_paths_here", "_law_other_here", "_law_second"]
theorem sc_law_first_part : FnScope N_law_first_part ["_law_script"] (defScope s_law_first_part) := ⟨rfl, rfl, rfl, by decide +kernel, rfl, by decide +kernel, by decide +kernel⟩
abbrev s_law_second_part : Stmt := top 58
abbrev N_law_second_part : List Str := ["_law_script", "_law_state_here", "_law_many_here", "_law_spoiled", "_law_parts_here", "_law_good", "_law_part", "_law_due", "_law_found", "e", "_law_turn"]
theorem sc_law_second_part : FnScope N_law_second_part ["_law_script"] (defScope s_law_second_part) := ⟨rfl, rfl, rfl, by decide +kernel, rfl, by decide +kernel, by decide +kernel⟩
abbrev s_law : Stmt := top 59
abbrev N_law : List Str := ["_law_script"]
theorem sc_law : FnScope N_law ["_law_script"] (defScope s_law) := ⟨rfl, rfl, rfl, by decide +kernel, rfl, by decide +kernel, by decide +kernel⟩
/-- what stands behind the top -/
structure Tops (w : World) (K : PySem.W.Frag) (mg : Str → Option Value) where
  z_isinstance : mg "isinstance" = none
  z_str : mg "str" = none
  z_tuple : mg "tuple" = none
  z_list : mg "list" = none
  z_len : mg "len" = none
  z_all : mg "all" = none
  z_set : mg "set" = none
  z_enumerate : mg "enumerate" = none
  z_range : mg "range" = none
  z_abs : mg "abs" = none
  z_int : mg "int" = none
  z_max : mg "max" = none
  z_dict : mg "dict" = none
  z_zip : mg "zip" = none
  z_ValueError : mg "ValueError" = none
  u_LONGEST_NAME : Tok
  c_LONGEST_NAME : mg "LONGEST_NAME" = some (.int 8 u_LONGEST_NAME)
  u_MOST_ROWS : Tok
  c_MOST_ROWS : mg "MOST_ROWS" = some (.int 16 u_MOST_ROWS)
  u_DEEPEST_IF : Tok
  c_DEEPEST_IF : mg "DEEPEST_IF" = some (.int 3 u_DEEPEST_IF)
  u_LEAST_WORDS : Tok
  c_LEAST_WORDS : mg "LEAST_WORDS" = some (.int 2 u_LEAST_WORDS)
  u_MOST_WORDS : Tok
  c_MOST_WORDS : mg "MOST_WORDS" = some (.int 4 u_MOST_WORDS)
  u_LEAST_SOURCES : Tok
  c_LEAST_SOURCES : mg "LEAST_SOURCES" = some (.int 1 u_LEAST_SOURCES)
  u_MOST_SOURCES : Tok
  c_MOST_SOURCES : mg "MOST_SOURCES" = some (.int 4 u_MOST_SOURCES)
  u_MOST_DERIVED : Tok
  c_MOST_DERIVED : mg "MOST_DERIVED" = some (.int 6 u_MOST_DERIVED)
  u_MOST_EFFECTS : Tok
  c_MOST_EFFECTS : mg "MOST_EFFECTS" = some (.int 4 u_MOST_EFFECTS)
  a_is_name : Addr
  d_is_name : FuncData
  F_is_name : Fun K "is_name" "is_name" s_is_name a_is_name d_is_name
  b_is_name : Binds K d_is_name ["value"] []
  m_is_name : mg "is_name" = some (.ref a_is_name)
  a_are_names : Addr
  d_are_names : FuncData
  F_are_names : Fun K "are_names" "are_names" s_are_names a_are_names d_are_names
  b_are_names : Binds K d_are_names ["value", "least", "most"] []
  m_are_names : mg "are_names" = some (.ref a_are_names)
  a_are_named_pairs : Addr
  d_are_named_pairs : FuncData
  F_are_named_pairs : Fun K "are_named_pairs" "are_named_pairs" s_are_named_pairs a_are_named_pairs d_are_named_pairs
  b_are_named_pairs : Binds K d_are_named_pairs ["value", "most", "taken"] []
  m_are_named_pairs : mg "are_named_pairs" = some (.ref a_are_named_pairs)
  a_InvalidProgram_init : Addr
  d_InvalidProgram_init : FuncData
  F_InvalidProgram_init : Fun K "__init__" "InvalidProgram.__init__" s_InvalidProgram_init a_InvalidProgram_init d_InvalidProgram_init
  b_InvalidProgram_init : Binds K d_InvalidProgram_init ["self", "part", "path"] []
  a_InvalidPath_init : Addr
  d_InvalidPath_init : FuncData
  F_InvalidPath_init : Fun K "__init__" "InvalidPath.__init__" s_InvalidPath_init a_InvalidPath_init d_InvalidPath_init
  b_InvalidPath_init : Binds K d_InvalidPath_init ["self", "path"] []
  a_UnknownCell_init : Addr
  d_UnknownCell_init : FuncData
  F_UnknownCell_init : Fun K "__init__" "UnknownCell.__init__" s_UnknownCell_init a_UnknownCell_init d_UnknownCell_init
  b_UnknownCell_init : Binds K d_UnknownCell_init ["self", "name"] []
  a_Scope_init : Addr
  d_Scope_init : FuncData
  F_Scope_init : Fun K "__init__" "Scope.__init__" s_Scope_init a_Scope_init d_Scope_init
  b_Scope_init : Binds K d_Scope_init ["self", "kind", "words", "sources", "readable"] []
  a_is_read_row : Addr
  d_is_read_row : FuncData
  F_is_read_row : Fun K "is_read_row" "is_read_row" s_is_read_row a_is_read_row d_is_read_row
  b_is_read_row : Binds K d_is_read_row ["row", "scope"] []
  m_is_read_row : mg "is_read_row" = some (.ref a_is_read_row)
  a_is_put_row : Addr
  d_is_put_row : FuncData
  F_is_put_row : Fun K "is_put_row" "is_put_row" s_is_put_row a_is_put_row d_is_put_row
  b_is_put_row : Binds K d_is_put_row ["row", "scope"] []
  m_is_put_row : mg "is_put_row" = some (.ref a_is_put_row)
  a_is_if_row : Addr
  d_is_if_row : FuncData
  F_is_if_row : Fun K "is_if_row" "is_if_row" s_is_if_row a_is_if_row d_is_if_row
  b_is_if_row : Binds K d_is_if_row ["row", "scope"] []
  m_is_if_row : mg "is_if_row" = some (.ref a_is_if_row)
  a_is_slot_row : Addr
  d_is_slot_row : FuncData
  F_is_slot_row : Fun K "is_slot_row" "is_slot_row" s_is_slot_row a_is_slot_row d_is_slot_row
  b_is_slot_row : Binds K d_is_slot_row ["row", "scope"] []
  m_is_slot_row : mg "is_slot_row" = some (.ref a_is_slot_row)
  a_is_write_row : Addr
  d_is_write_row : FuncData
  F_is_write_row : Fun K "is_write_row" "is_write_row" s_is_write_row a_is_write_row d_is_write_row
  b_is_write_row : Binds K d_is_write_row ["row", "scope"] []
  m_is_write_row : mg "is_write_row" = some (.ref a_is_write_row)
  a_check_of : Addr
  d_check_of : FuncData
  F_check_of : Fun K "check_of" "check_of" s_check_of a_check_of d_check_of
  b_check_of : Binds K d_check_of ["kind", "form"] []
  m_check_of : mg "check_of" = some (.ref a_check_of)
  a_is_valid_row : Addr
  d_is_valid_row : FuncData
  F_is_valid_row : Fun K "is_valid_row" "is_valid_row" s_is_valid_row a_is_valid_row d_is_valid_row
  b_is_valid_row : Binds K d_is_valid_row ["row", "scope", "depth"] []
  m_is_valid_row : mg "is_valid_row" = some (.ref a_is_valid_row)
  a_first_wrong_path : Addr
  d_first_wrong_path : FuncData
  F_first_wrong_path : Fun K "first_wrong_path" "first_wrong_path" s_first_wrong_path a_first_wrong_path d_first_wrong_path
  b_first_wrong_path : Binds K d_first_wrong_path ["rows", "scope", "base", "depth"] []
  m_first_wrong_path : mg "first_wrong_path" = some (.ref a_first_wrong_path)
  a_paths_of_rows : Addr
  d_paths_of_rows : FuncData
  F_paths_of_rows : Fun K "paths_of_rows" "paths_of_rows" s_paths_of_rows a_paths_of_rows d_paths_of_rows
  b_paths_of_rows : Binds K d_paths_of_rows ["rows", "base"] []
  m_paths_of_rows : mg "paths_of_rows" = some (.ref a_paths_of_rows)
  a_Program_init : Addr
  d_Program_init : FuncData
  F_Program_init : Fun K "__init__" "Program.__init__" s_Program_init a_Program_init d_Program_init
  b_Program_init : Binds K d_Program_init ["self", "words", "sources", "derived", "effects"] []
  a_Program_eq : Addr
  d_Program_eq : FuncData
  F_Program_eq : Fun K "__eq__" "Program.__eq__" s_Program_eq a_Program_eq d_Program_eq
  b_Program_eq : Binds K d_Program_eq ["self", "other"] []
  a_Program_cells : Addr
  d_Program_cells : FuncData
  F_Program_cells : Fun K "cells" "Program.cells" s_Program_cells a_Program_cells d_Program_cells
  b_Program_cells : Binds K d_Program_cells ["self"] []
  a_Program_derived_names : Addr
  d_Program_derived_names : FuncData
  F_Program_derived_names : Fun K "derived_names" "Program.derived_names" s_Program_derived_names a_Program_derived_names d_Program_derived_names
  b_Program_derived_names : Binds K d_Program_derived_names ["self"] []
  a_Program_effect_names : Addr
  d_Program_effect_names : FuncData
  F_Program_effect_names : Fun K "effect_names" "Program.effect_names" s_Program_effect_names a_Program_effect_names d_Program_effect_names
  b_Program_effect_names : Binds K d_Program_effect_names ["self"] []
  a_Program_body : Addr
  d_Program_body : FuncData
  F_Program_body : Fun K "body" "Program.body" s_Program_body a_Program_body d_Program_body
  b_Program_body : Binds K d_Program_body ["self", "name"] []
  a_Program_row_paths : Addr
  d_Program_row_paths : FuncData
  F_Program_row_paths : Fun K "row_paths" "Program.row_paths" s_Program_row_paths a_Program_row_paths d_Program_row_paths
  b_Program_row_paths : Binds K d_Program_row_paths ["self"] []
  a_Program_row_at : Addr
  d_Program_row_at : FuncData
  F_Program_row_at : Fun K "row_at" "Program.row_at" s_Program_row_at a_Program_row_at d_Program_row_at
  b_Program_row_at : Binds K d_Program_row_at ["self", "path"] []
  a_Program_with_row : Addr
  d_Program_with_row : FuncData
  F_Program_with_row : Fun K "with_row" "Program.with_row" s_Program_with_row a_Program_with_row d_Program_with_row
  b_Program_with_row : Binds K d_Program_with_row ["self", "path", "row"] []
  a_names_of : Addr
  d_names_of : FuncData
  F_names_of : Fun K "names_of" "names_of" s_names_of a_names_of d_names_of
  b_names_of : Binds K d_names_of ["pairs"] []
  m_names_of : mg "names_of" = some (.ref a_names_of)
  a_check_parts : Addr
  d_check_parts : FuncData
  F_check_parts : Fun K "check_parts" "check_parts" s_check_parts a_check_parts d_check_parts
  b_check_parts : Binds K d_check_parts ["words", "sources", "derived", "effects"] []
  m_check_parts : mg "check_parts" = some (.ref a_check_parts)
  a_check_bodies : Addr
  d_check_bodies : FuncData
  F_check_bodies : Fun K "check_bodies" "check_bodies" s_check_bodies a_check_bodies d_check_bodies
  b_check_bodies : Binds K d_check_bodies ["words", "sources", "derived", "effects"] []
  m_check_bodies : mg "check_bodies" = some (.ref a_check_bodies)
  a_check_body : Addr
  d_check_body : FuncData
  F_check_body : Fun K "check_body" "check_body" s_check_body a_check_body d_check_body
  b_check_body : Binds K d_check_body ["rows", "scope", "index"] []
  m_check_body : mg "check_body" = some (.ref a_check_body)
  a__law_state : Addr
  d__law_state : FuncData
  F__law_state : Fun K "_law_state" "_law_state" s_law_state a__law_state d__law_state
  b__law_state : Binds K d__law_state ["_law_script"] []
  m__law_state : mg "_law_state" = some (.ref a__law_state)
  a__law_draw : Addr
  d__law_draw : FuncData
  F__law_draw : Fun K "_law_draw" "_law_draw" s_law_draw a__law_draw d__law_draw
  b__law_draw : Binds K d__law_draw ["_law_state_here", "_law_many_here"] []
  m__law_draw : mg "_law_draw" = some (.ref a__law_draw)
  a__law_names : Addr
  d__law_names : FuncData
  F__law_names : Fun K "_law_names" "_law_names" s_law_names a__law_names d__law_names
  b__law_names : Binds K d__law_names ["_law_state_here", "_law_many_here"] []
  m__law_names : mg "_law_names" = some (.ref a__law_names)
  a__law_many : Addr
  d__law_many : FuncData
  F__law_many : Fun K "_law_many" "_law_many" s_law_many a__law_many d__law_many
  b__law_many : Binds K d__law_many ["_law_rows_here"] []
  m__law_many : mg "_law_many" = some (.ref a__law_many)
  a__law_row : Addr
  d__law_row : FuncData
  F__law_row : Fun K "_law_row" "_law_row" s_law_row a__law_row d__law_row
  b__law_row : Binds K d__law_row ["_law_state_here", "_law_shape"] []
  m__law_row : mg "_law_row" = some (.ref a__law_row)
  a__law_rows : Addr
  d__law_rows : FuncData
  F__law_rows : Fun K "_law_rows" "_law_rows" s_law_rows a__law_rows d__law_rows
  b__law_rows : Binds K d__law_rows ["_law_state_here", "_law_shape", "_law_depth", "_law_room"] []
  m__law_rows : mg "_law_rows" = some (.ref a__law_rows)
  a__law_parts : Addr
  d__law_parts : FuncData
  F__law_parts : Fun K "_law_parts" "_law_parts" s_law_parts a__law_parts d__law_parts
  b__law_parts : Binds K d__law_parts ["_law_state_here", "_law_sizes", "_law_peeks", "_law_writes"] []
  m__law_parts : mg "_law_parts" = some (.ref a__law_parts)
  a__law_all_paths : Addr
  d__law_all_paths : FuncData
  F__law_all_paths : Fun K "_law_all_paths" "_law_all_paths" s_law_all_paths a__law_all_paths d__law_all_paths
  b__law_all_paths : Binds K d__law_all_paths ["_law_rows_here", "_law_path"] []
  m__law_all_paths : mg "_law_all_paths" = some (.ref a__law_all_paths)
  a__law_paths : Addr
  d__law_paths : FuncData
  F__law_paths : Fun K "_law_paths" "_law_paths" s_law_paths a__law_paths d__law_paths
  b__law_paths : Binds K d__law_paths ["_law_parts_here"] []
  m__law_paths : mg "_law_paths" = some (.ref a__law_paths)
  a__law_other : Addr
  d__law_other : FuncData
  F__law_other : Fun K "_law_other" "_law_other" s_law_other a__law_other d__law_other
  b__law_other : Binds K d__law_other ["_law_parts_here", "_law_part", "_law_state_here"] []
  m__law_other : mg "_law_other" = some (.ref a__law_other)
  a__law_unknown : Addr
  d__law_unknown : FuncData
  F__law_unknown : Fun K "_law_unknown" "_law_unknown" s_law_unknown a__law_unknown d__law_unknown
  b__law_unknown : Binds K d__law_unknown ["_law_program", "_law_name"] []
  m__law_unknown : mg "_law_unknown" = some (.ref a__law_unknown)
  a__law_is_name : Addr
  d__law_is_name : FuncData
  F__law_is_name : Fun K "_law_is_name" "_law_is_name" s_law_is_name a__law_is_name d__law_is_name
  b__law_is_name : Binds K d__law_is_name ["_law_value"] []
  m__law_is_name : mg "_law_is_name" = some (.ref a__law_is_name)
  a__law_bad_name : Addr
  d__law_bad_name : FuncData
  F__law_bad_name : Fun K "_law_bad_name" "_law_bad_name" s_law_bad_name a__law_bad_name d__law_bad_name
  b__law_bad_name : Binds K d__law_bad_name ["_law_state_here", "_law_good"] []
  m__law_bad_name : mg "_law_bad_name" = some (.ref a__law_bad_name)
  a__law_bad_names : Addr
  d__law_bad_names : FuncData
  F__law_bad_names : Fun K "_law_bad_names" "_law_bad_names" s_law_bad_names a__law_bad_names d__law_bad_names
  b__law_bad_names : Binds K d__law_bad_names ["_law_state_here", "_law_names_here", "_law_most"] []
  m__law_bad_names : mg "_law_bad_names" = some (.ref a__law_bad_names)
  a__law_bad_pairs : Addr
  d__law_bad_pairs : FuncData
  F__law_bad_pairs : Fun K "_law_bad_pairs" "_law_bad_pairs" s_law_bad_pairs a__law_bad_pairs d__law_bad_pairs
  b__law_bad_pairs : Binds K d__law_bad_pairs ["_law_state_here", "_law_pairs", "_law_sources", "_law_most"] []
  m__law_bad_pairs : mg "_law_bad_pairs" = some (.ref a__law_bad_pairs)
  a__law_names_good : Addr
  d__law_names_good : FuncData
  F__law_names_good : Fun K "_law_names_good" "_law_names_good" s_law_names_good a__law_names_good d__law_names_good
  b__law_names_good : Binds K d__law_names_good ["_law_value", "_law_least", "_law_most"] []
  m__law_names_good : mg "_law_names_good" = some (.ref a__law_names_good)
  a__law_pairs_good : Addr
  d__law_pairs_good : FuncData
  F__law_pairs_good : Fun K "_law_pairs_good" "_law_pairs_good" s_law_pairs_good a__law_pairs_good d__law_pairs_good
  b__law_pairs_good : Binds K d__law_pairs_good ["_law_value", "_law_most", "_law_taken"] []
  m__law_pairs_good : mg "_law_pairs_good" = some (.ref a__law_pairs_good)
  a__law_first_fault : Addr
  d__law_first_fault : FuncData
  F__law_first_fault : Fun K "_law_first_fault" "_law_first_fault" s_law_first_fault a__law_first_fault d__law_first_fault
  b__law_first_fault : Binds K d__law_first_fault ["_law_parts_here"] []
  m__law_first_fault : mg "_law_first_fault" = some (.ref a__law_first_fault)
  a__law_first_part : Addr
  d__law_first_part : FuncData
  F__law_first_part : Fun K "_law_first_part" "_law_first_part" s_law_first_part a__law_first_part d__law_first_part
  b__law_first_part : Binds K d__law_first_part ["_law_script"] []
  m__law_first_part : mg "_law_first_part" = some (.ref a__law_first_part)
  a__law_second_part : Addr
  d__law_second_part : FuncData
  F__law_second_part : Fun K "_law_second_part" "_law_second_part" s_law_second_part a__law_second_part d__law_second_part
  b__law_second_part : Binds K d__law_second_part ["_law_script"] []
  m__law_second_part : mg "_law_second_part" = some (.ref a__law_second_part)
  a_law : Addr
  d_law : FuncData
  F_law : Fun K "law" "law" s_law a_law d_law
  b_law : Binds K d_law ["_law_script"] []
  m_law : mg "law" = some (.ref a_law)
  c_ToldError : Addr
  m_ToldError : mg "ToldError" = some (.ref c_ToldError)
  c_InvalidProgram : Addr
  m_InvalidProgram : mg "InvalidProgram" = some (.ref c_InvalidProgram)
  x_InvalidProgram : OexC K c_InvalidProgram
  xi_InvalidProgram : PySem.W.findIn K (.ref c_InvalidProgram) "__init__" = some (some (.ref a_InvalidProgram_init))
  xt_InvalidProgram : PySem.W.typeIn K (.ref a_InvalidProgram_init) = some (.type "function")
  n_InvalidProgram_part : PySem.W.findIn K (.ref c_InvalidProgram) "part" = some none
  n_InvalidProgram_path : PySem.W.findIn K (.ref c_InvalidProgram) "path" = some none
  xa_InvalidProgram : PySem.W.findIn K (.ref c_InvalidProgram) "__getattribute__" = some (some (.builtin "BaseException.__getattribute__"))
  xg_InvalidProgram : PySem.W.findIn K (.ref c_InvalidProgram) "__getattr__" = some none
  xh_InvalidProgram : PySem.W.hasDictIn K c_InvalidProgram = true
  xe_InvalidProgram : PySem.W.exmOne K (.ref c_InvalidProgram) (.ref c_InvalidProgram) = some true
  c_InvalidPath : Addr
  m_InvalidPath : mg "InvalidPath" = some (.ref c_InvalidPath)
  c_UnknownCell : Addr
  m_UnknownCell : mg "UnknownCell" = some (.ref c_UnknownCell)
  x_UnknownCell : OexC K c_UnknownCell
  xi_UnknownCell : PySem.W.findIn K (.ref c_UnknownCell) "__init__" = some (some (.ref a_UnknownCell_init))
  xt_UnknownCell : PySem.W.typeIn K (.ref a_UnknownCell_init) = some (.type "function")
  n_UnknownCell_name : PySem.W.findIn K (.ref c_UnknownCell) "name" = some none
  xa_UnknownCell : PySem.W.findIn K (.ref c_UnknownCell) "__getattribute__" = some (some (.builtin "BaseException.__getattribute__"))
  xg_UnknownCell : PySem.W.findIn K (.ref c_UnknownCell) "__getattr__" = some none
  xh_UnknownCell : PySem.W.hasDictIn K c_UnknownCell = true
  xe_UnknownCell : PySem.W.exmOne K (.ref c_UnknownCell) (.ref c_UnknownCell) = some true
  xn_UnknownCell_InvalidProgram : PySem.W.exmOne K (.ref c_UnknownCell) (.ref c_InvalidProgram) = some false
  c_Scope : Addr
  m_Scope : mg "Scope" = some (.ref c_Scope)
  l_Scope : Cls K c_Scope
  k_Scope : Mk K c_Scope a_Scope_init
  n_Scope_kind : NoAttr K c_Scope "kind"
  n_Scope_words : NoAttr K c_Scope "words"
  n_Scope_sources : NoAttr K c_Scope "sources"
  n_Scope_readable : NoAttr K c_Scope "readable"
  c_Program : Addr
  m_Program : mg "Program" = some (.ref c_Program)
  l_Program : Cls K c_Program
  k_Program : Mk K c_Program a_Program_init
  n_Program_words : NoAttr K c_Program "words"
  n_Program_sources : NoAttr K c_Program "sources"
  n_Program_derived : NoAttr K c_Program "derived"
  n_Program_effects : NoAttr K c_Program "effects"
  n_Program__derived_names : NoAttr K c_Program "_derived_names"
  n_Program__effect_names : NoAttr K c_Program "_effect_names"
  t_Program_cells : Meth K c_Program "cells" a_Program_cells
  t_Program_derived_names : Meth K c_Program "derived_names" a_Program_derived_names
  t_Program_effect_names : Meth K c_Program "effect_names" a_Program_effect_names
  t_Program_body : Meth K c_Program "body" a_Program_body
  t_Program_row_paths : Meth K c_Program "row_paths" a_Program_row_paths
  t_Program_row_at : Meth K c_Program "row_at" a_Program_row_at
  t_Program_with_row : Meth K c_Program "with_row" a_Program_with_row
  i_Program : C8.InsC K c_Program
  a_DERIVED_FORMS : Addr
  c_DERIVED_FORMS : mg "DERIVED_FORMS" = some (.ref a_DERIVED_FORMS)
  w_DERIVED_FORMS : KTab K w a_DERIVED_FORMS
  w_DERIVED_FORMS_read : KDct K w a_DERIVED_FORMS "read" (.ref a_is_read_row)
  w_DERIVED_FORMS_put : KDct K w a_DERIVED_FORMS "put" (.ref a_is_put_row)
  w_DERIVED_FORMS_if : KDct K w a_DERIVED_FORMS "if" (.ref a_is_if_row)
  w_DERIVED_FORMS_give : KDct K w a_DERIVED_FORMS "give" (.ref a_is_slot_row)
  a_EFFECT_FORMS : Addr
  c_EFFECT_FORMS : mg "EFFECT_FORMS" = some (.ref a_EFFECT_FORMS)
  w_EFFECT_FORMS : KTab K w a_EFFECT_FORMS
  w_EFFECT_FORMS_read : KDct K w a_EFFECT_FORMS "read" (.ref a_is_read_row)
  w_EFFECT_FORMS_peek : KDct K w a_EFFECT_FORMS "peek" (.ref a_is_read_row)
  w_EFFECT_FORMS_put : KDct K w a_EFFECT_FORMS "put" (.ref a_is_put_row)
  w_EFFECT_FORMS_if : KDct K w a_EFFECT_FORMS "if" (.ref a_is_if_row)
  w_EFFECT_FORMS_write : KDct K w a_EFFECT_FORMS "write" (.ref a_is_write_row)
  w_EFFECT_FORMS_say : KDct K w a_EFFECT_FORMS "say" (.ref a_is_slot_row)
  xc_InvalidProgram : ExcC K c_InvalidProgram
  xk_ToldError : PySem.W.kitOne K (.ref c_InvalidProgram) (.ref c_ToldError) = some true
  xk_ValueError : PySem.W.kitOne K (.ref c_InvalidProgram) (.type "ValueError") = some true
  xk_InvalidPath : PySem.W.kitOne K (.ref c_InvalidProgram) (.ref c_InvalidPath) = some false
  xq_Program : PySem.W.findIn K (.ref c_Program) "__eq__" = some (some (.ref a_Program_eq))
  xf_Program : PySem.W.isFn K (.ref a_Program_eq) = true
end K01
namespace K01
open PySem PySem.Spec PyProof.Rows L2 Td
/-- the state of the draws at st -/
def stL (sc : Addr) (i d c s : Int) : List V := [.ref sc, .int i, .int d, .int c, .int s]
def StOk (H : Hp) (st sc : Addr) : Prop := ∃ (cs : List Int) (i d c s : Int),
  H st = some (.lst (stL sc i d c s)) ∧ H sc = some (.lst (cs.map V.int)) ∧ 0 ≤ d ∧ 0 ≤ i ∧ i ≤ cs.length ∧ cs.length ≤ 63 ∧ sc ≠ st
def spDraw : Sp := fun vs H Q _ => ∃ (st sc : Addr) (m : Int), vs = [.ref st, .int m] ∧ 0 < m ∧ m < 2 ^ 64 ∧ StOk H st sc ∧
  ∀ (r : Int) (H' : Hp), 0 ≤ r → r < m → Keep st H H' → StOk H' st sc → (∃ L, H' = upd H st (.lst L)) → Q (.int r) H'
def spState (K : PySem.W.Frag) : Sp := fun vs H Q _ => ∃ (a : Addr) (ns : List Int), vs = [.ref a] ∧ SqL K H a (ns.map V.int) ∧ ns.length ≤ 63 ∧
  ∀ (st sc : Addr) (H' : Hp), Same H H' → H st = none → H sc = none → StOk H' st sc → Q (.ref st) H'
section
variable {P : Program} {w : World} {K : PySem.W.Frag} {mg : Str → Option Value} {base : Heap}
theorem ok_draw (T : Tops w K mg) : FnOk P w K mg base CX0 1 T.a__law_draw T.d__law_draw ["_law_state_here", "_law_many_here"] spDraw := by
  refine T.F__law_draw.ok sc_law_draw (fun vs H Q E h => ?_) (fun cdv A outer s H vs Q E hr h => ?_)
  · obtain ⟨st, sc, m, rfl, _⟩ := h
    rfl
  obtain ⟨st, sc, m, rfl, hm0, hm1, ⟨cs, i, d, c, z, h1, h2, hd0, hi0, hi, h63, hne⟩, q⟩ := h
  refine ⟨_, (pss_cons (ps_augS (pv 0) pe_int get_list pe_int ip_add set_list)
    (C8.pss_cut (ps_if (PW.pt (pw_and (pt_cmpR op_eq (pe_ix ix_list (pv 0) pe_int (fun _ _ => rfl)) pe_int (nomark _)) (pw_and1 (pt_cmpR op_lt (pe_ix ix_list (pv 0) pe_int (fun _ _ => rfl)) (pe_callB call_len rfl T.z_len PySem.boot_len (pa_cons (pe_ix ix_list (pv 0) pe_int (fun _ _ => rfl)) pa_nil)) (nomark _))))) (pss_cons (ps_set (i := 2) sc_law_draw.nd rfl (Or.inl rfl) (pe_ix ix_list (pe_ix ix_list (pv 0) pe_int (fun _ _ => rfl)) (pe_ix ix_list (pv 0) pe_int (fun _ _ => rfl)) (fun _ _ => rfl)))
    (pss_cons (ps_augS (pv 0) pe_int get_list pe_int ip_add set_list)
    (pss_one (ps_if (pt_cmpR op_ge (pe_callB call_abs rfl T.z_abs (by decide +kernel) (pa_cons (pv 2) pa_nil)) (pe_op op_pow pe_int pe_int) (nomark _)) (pss_one (ps_asg (pe_callB call_abs rfl T.z_abs (by decide +kernel) (pa_cons (pv 2) pa_nil)) (pg_sub (pv 0) pe_int set_list))) (pss_one (ps_asg (pe_op op_modN (pe_callTy call_int1 rfl T.z_int (by decide +kernel) (pa_cons (pe_op op_add (pe_op op_add (pe_op op_mul (pe_ix ix_list (pv 0) pe_int (fun _ _ => rfl)) pe_int) (pv 2)) pe_int) pa_nil)) pe_int) (pg_sub (pv 0) pe_int set_list))))))) pss_nil)
    (pss_cons (ps_if (pt_cmpR op_gt (pe_ix ix_list (pv 0) pe_int (fun _ _ => rfl)) pe_int (nomark _)) (pss_cons (ps_set (i := 3) sc_law_draw.nd rfl (Or.inl rfl) (pe_op op_modN (pe_callTy call_int1 rfl T.z_int (by decide +kernel) (pa_cons (pe_ix ix_list (pv 0) pe_int (fun _ _ => rfl)) pa_nil)) (pv 1)))
    (pss_cons (ps_asg (pe_op op_fdivW (pe_ix ix_list (pv 0) pe_int (fun _ _ => rfl)) (pv 1)) (pg_sub (pv 0) pe_int set_list))
    (pss_one (ps_ret (pv 3))))) pss_nil)
    (pss_cons (ps_set (i := 4) sc_law_draw.nd rfl (Or.inl rfl) (pe_op op_modN (pe_callTy call_int1 rfl T.z_int (by decide +kernel) (pa_cons (pe_op op_mul (pe_op op_add (pe_op op_add (pe_ix ix_list (pv 0) pe_int (fun _ _ => rfl)) (pe_op op_mul pe_int (pe_ix ix_list (pv 0) pe_int (fun _ _ => rfl)))) pe_int) pe_int) pa_nil)) pe_int))
    (pss_cons (ps_set (i := 5) sc_law_draw.nd rfl (Or.inl rfl) (pe_op op_modN (pe_callTy call_int1 rfl T.z_int (by decide +kernel) (pa_cons (pe_op op_mul (pv 4) (pe_op op_add (pe_op op_fdivW (pv 4) pe_int) pe_int)) pa_nil)) pe_int))
    (pss_cons (ps_set (i := 6) sc_law_draw.nd rfl (Or.inl rfl) (pe_op op_modN (pe_callTy call_int1 rfl T.z_int (by decide +kernel) (pa_cons (pe_op op_mul (pv 5) (pe_op op_add (pe_op op_fdivW (pv 5) pe_int) pe_int)) pa_nil)) pe_int))
    (pss_one (ps_ret (pe_op op_modN (pe_callTy call_int1 rfl T.z_int (by decide +kernel) (pa_cons (pe_op op_fdivW (pv 6) pe_int) pa_nil)) (pv 1)))))))))), ?_⟩
  -- state[3] += 1
  refine ⟨_, rfl, st, _, 3, _, rfl, rfl, SqL.of h1, rfl, _, _, rfl, rfl, st, _, _, 3, rfl, rfl, h1, rfl, ?_⟩
  have k1 : Keep st H (upd H st (.lst (stL sc i d (c + 1) z))) := Keep.upd
  have e1 : upd H st (.lst (stL sc i d (c + 1) z)) st = some (.lst (stL sc i d (c + 1) z)) := upd_same
  have e2 : upd H st (.lst (stL sc i d (c + 1) z)) sc = some (.lst (cs.map V.int)) := k1 _ _ hne h2
  show C8.tCut _ _ _ _ (upd H st (.lst (stL sc i d (c + 1) z)))
  refine ⟨fun σ' H' => ∃ (v : Option V) (i' d' z' : Int), σ' = [some (.ref st), some (.int m), v, none, none, none, none] ∧
    H' = upd H st (.lst (stL sc i' d' (c + 1) z')) ∧ 0 ≤ d' ∧ 0 ≤ i' ∧ i' ≤ cs.length, ?_, ?_⟩
  · -- if state[2] == 0 and state[1] < len(state[0])
    refine ⟨_, rfl, st, _, 2, _, rfl, rfl, SqL.of e1, rfl, rfl, _, rfl, ?_⟩
    refine ite2 (fun c1 => ?_) (fun _ => iteF ⟨none, i, d, z, rfl, rfl, hd0, hi0, hi⟩)
    refine ⟨_, rfl, st, _, 1, _, rfl, rfl, SqL.of e1, rfl, _, rfl, st, _, 0, _, rfl, rfl, SqL.of e1, rfl, _, (cs.map V.int).length, rfl, .inl ⟨_, SqL.of e2, rfl⟩, _, _, rfl, rfl, _, rfl, ?_⟩
    refine ite2 (fun c2 => ?_) (fun _ => ⟨none, i, d, z, rfl, rfl, hd0, hi0, hi⟩)
    have hlt : i.toNat < cs.length := by
      have := of_decide_eq_true c2
      rw [List.length_map] at this
      omega
    have hat : atI (cs.map V.int) i = some (V.int cs[i.toNat]) := by
      have : atI (cs.map V.int) ((i.toNat : Nat) : Int) = some (V.int cs[i.toNat]) := atI_nat (by rw [List.getElem?_map, List.getElem?_eq_getElem hlt]; rfl)
      rwa [show ((i.toNat : Nat) : Int) = i by omega] at this
    -- cell = state[0][state[1]]; state[1] += 1
    refine ⟨_, rfl, st, _, 0, _, rfl, rfl, SqL.of e1, rfl, _, rfl, st, _, 1, _, rfl, rfl, SqL.of e1, rfl, sc, _, i, V.int cs[i.toNat], rfl, rfl, SqL.of e2, hat, ?_⟩
    refine ⟨_, rfl, st, _, 1, _, rfl, rfl, SqL.of e1, rfl, _, _, rfl, rfl, st, _, _, 1, rfl, rfl, e1, rfl, ?_⟩
    rw [upd_upd]
    have e3 : upd H st (.lst (stL sc (i + 1) d (c + 1) z)) st = some (.lst (stL sc (i + 1) d (c + 1) z)) := upd_same
    rw [show upd H st (.lst ((stL sc i d (c + 1) z).set 1 (V.int ((fun i j => i + j) i 1)))) = upd H st (.lst (stL sc (i + 1) d (c + 1) z)) from rfl]
    -- if abs(cell) >= 10 ** 18
    refine ⟨_, rfl, _, rfl, _, _, rfl, rfl, ⟨by decide, by decide, by decide⟩, _, _, rfl, rfl, _, rfl, ?_⟩
    refine ite2 (fun _ => ?_) (fun _ => ?_)
    · refine ⟨_, rfl, _, rfl, _, rfl, st, _, 2, 2, rfl, rfl, e3, rfl, ?_⟩
      rw [upd_upd]
      exact ⟨_, i + 1, _, z, rfl, rfl, by split <;> omega, by omega, by omega⟩
    · refine ⟨_, rfl, st, _, 4, _, rfl, rfl, SqL.of e3, rfl, _, _, rfl, rfl, .inr ⟨by decide, by decide⟩, _, rfl, _, _, rfl, rfl, _, _, rfl, rfl, .inl ⟨_, rfl, ?_⟩⟩
      refine ⟨_, _, rfl, rfl, (by show (2147483647 : Int) ≠ 0; decide), _, rfl, st, _, 4, 4, rfl, rfl, e3, rfl, ?_⟩
      rw [upd_upd]
      exact ⟨_, i + 1, _, _, rfl, rfl, hd0, by omega, by omega⟩
  · rintro σ' H' ⟨v, i', d', z', rfl, rfl, hd', hi0', hi'⟩
    have e3 : upd H st (.lst (stL sc i' d' (c + 1) z')) st = some (.lst (stL sc i' d' (c + 1) z')) := upd_same
    have e4 : ∀ i2 d2 c2 z2, upd H st (.lst (stL sc i2 d2 c2 z2)) sc = some (.lst (cs.map V.int)) := fun i2 d2 c2 z2 => by rw [upd_ne hne]; exact h2
    have fin : ∀ (r : Int) (d2 : Int), 0 ≤ d2 → 0 ≤ r → r < m → Q (.int r) (upd H st (.lst (stL sc i' d2 (c + 1) z'))) := fun r d2 h0 hr0 hr1 =>
      q r _ hr0 hr1 Keep.upd ⟨cs, i', d2, c + 1, z', upd_same, e4 _ _ _ _, h0, hi0', hi', h63, hne⟩ ⟨_, rfl⟩
    -- if state[2] > 0
    refine ⟨_, rfl, st, _, 2, _, rfl, rfl, SqL.of e3, rfl, _, _, rfl, rfl, _, rfl, ?_⟩
    refine ite2 (fun _ => ?_) (fun _ => ?_)
    · refine ⟨_, rfl, st, _, 2, _, rfl, rfl, SqL.of e3, rfl, .inl ⟨_, rfl, _, rfl, _, _, rfl, rfl, by omega, ?_⟩⟩
      refine ⟨_, rfl, st, _, 2, _, rfl, rfl, SqL.of e3, rfl, _, rfl, _, _, rfl, rfl, wide_div (b := 64) hm0 (by omega) (by decide) (by decide), ?_⟩
      refine ⟨_, rfl, st, _, 2, 2, rfl, rfl, e3, rfl, ?_⟩
      rw [upd_upd]
      refine ⟨_, rfl, fin _ _ (Int.ediv_nonneg hd' (Int.le_of_lt hm0)) ?_ ?_⟩
      · rw [Int.fmod_eq_emod_of_nonneg _ (Int.le_of_lt hm0)]; exact Int.emod_nonneg _ (by omega)
      · rw [Int.fmod_eq_emod_of_nonneg _ (Int.le_of_lt hm0)]; exact Int.emod_lt_of_pos _ hm0
    · -- one, two, three
      refine ⟨_, rfl, st, _, 4, _, rfl, rfl, SqL.of e3, rfl, _, rfl, st, _, 3, _, rfl, rfl, SqL.of e3, rfl, _, _, rfl, rfl, .inl ⟨by decide, by decide⟩, _, _, rfl, rfl, _, _, rfl, rfl, _, _, rfl, rfl, .inr ⟨by decide, by decide⟩, .inl ⟨_, rfl, _, _, rfl, rfl, (by show (2147483647 : Int) ≠ 0; decide), ?_⟩⟩
      dsimp only
      generalize hx : Int.fmod ((z' + 7919 * (c + 1) + 1) * 48271) 2147483647 = one
      have o0 : 0 ≤ one ∧ one < 2147483647 := by
        rw [← hx, Int.fmod_eq_emod_of_nonneg _ (by decide)]
        exact ⟨Int.emod_nonneg _ (by decide), Int.emod_lt_of_pos _ (by decide)⟩
      refine ⟨_, rfl, _, rfl, _, _, rfl, rfl, wide_div (b := 64) (by decide) (by decide) (by decide) (by decide), _, _, rfl, rfl, _, _, rfl, rfl, .inl ⟨by omega, by omega⟩, .inl ⟨_, rfl, _, _, rfl, rfl, (by show (2147483647 : Int) ≠ 0; decide), ?_⟩⟩
      dsimp only
      generalize hy : Int.fmod (one * (one / 1009 + 69621)) 2147483647 = two
      have t0 : 0 ≤ two ∧ two < 2147483647 := by
        rw [← hy, Int.fmod_eq_emod_of_nonneg _ (by decide)]
        exact ⟨Int.emod_nonneg _ (by decide), Int.emod_lt_of_pos _ (by decide)⟩
      refine ⟨_, rfl, _, rfl, _, _, rfl, rfl, wide_div (b := 64) (by decide) (by decide) (by decide) (by decide), _, _, rfl, rfl, _, _, rfl, rfl, .inl ⟨by omega, by omega⟩, .inl ⟨_, rfl, _, _, rfl, rfl, (by show (2147483399 : Int) ≠ 0; decide), ?_⟩⟩
      refine ⟨_, rfl, _, _, rfl, rfl, wide_div (b := 64) (by decide) (by decide) (by decide) (by decide), .inl ⟨_, rfl, _, rfl, _, _, rfl, rfl, by omega, ?_⟩⟩
      refine fin _ _ hd' ?_ ?_
      · rw [Int.fmod_eq_emod_of_nonneg _ (Int.le_of_lt hm0)]; exact Int.emod_nonneg _ (by omega)
      · rw [Int.fmod_eq_emod_of_nonneg _ (Int.le_of_lt hm0)]; exact Int.emod_lt_of_pos _ hm0
end
end K01
namespace K01
open PySem PySem.Spec PyProof.Rows L2 Td
/-! ### the letters -/
def abc : Str := "abcdefghijklmnopqrstuvwxyz"
theorem abc_list : abc.cps.toList = List.range' 97 26 := by decide +kernel
theorem abc_len : abc.length ≤ sizeLine := by
  rw [show abc.length = 26 by decide +kernel]; decide
theorem abc_at {i : Int} (h0 : 0 ≤ i) (h1 : i < 26) : atI abc.cps.toList i = some (97 + i.toNat) := by
  have : atI abc.cps.toList ((i.toNat : Nat) : Int) = some (97 + i.toNat) := atI_nat (by
    rw [abc_list, List.getElem?_range' (by omega), Nat.one_mul])
  rwa [show ((i.toNat : Nat) : Int) = i by omega] at this
theorem add_len (z : Str) (c : Nat) : (z ++ (⟨#[c]⟩ : Str)).length = z.length + 1 := by
  show (z.cps ++ #[c]).size = z.cps.size + 1
  simp
theorem add_low {z : Str} {c : Nat} (h : z.cps.toList.all lowc = true) (hc : lowc c = true) : (z ++ (⟨#[c]⟩ : Str)).cps.toList.all lowc = true := by
  show (z.cps ++ #[c]).toList.all lowc = true
  simp [List.all_append] at h ⊢
  exact ⟨h, hc⟩
theorem add_old {z : Str} {c j x : Nat} (h : z.cps[j]? = some x) : (z ++ (⟨#[c]⟩ : Str)).cps[j]? = some x := by
  show (z.cps ++ #[c])[j]? = some x
  have := (Array.getElem?_eq_some_iff.mp h).1
  rw [Array.getElem?_append_left this]; exact h
theorem add_new (z : Str) (c : Nat) : (z ++ (⟨#[c]⟩ : Str)).cps[z.length]? = some c := by
  show (z.cps ++ #[c])[z.cps.size]? = some c
  simp
theorem low_of {i : Int} (h0 : 0 ≤ i) (h1 : i < 26) : lowc (97 + i.toNat) = true := by
  unfold lowc
  simp
  omega
/-- what the names of one drawing have in common: at the place p stands the k-th letter -/
def letK (first k : Nat) : Nat := 97 + (first + 7 * k) % 26
structure NamesAt (p first : Nat) (ns : List Str) : Prop where
  good : ∀ z ∈ ns, isNm z = true
  at_ : ∀ (j : Nat) (z : Str), ns[j]? = some z → z.cps[p]? = some (letK first j)
theorem NamesAt.nodup {p first : Nat} {ns : List Str} (h : NamesAt p first ns) (hl : ns.length ≤ 26) : ns.Nodup := by
  rw [List.Nodup, List.pairwise_iff_getElem]
  intro i j hi hj hij e3
  have e1 := h.at_ i ns[i] (List.getElem?_eq_getElem hi)
  have e2 := h.at_ j ns[j] (List.getElem?_eq_getElem hj)
  rw [e3, e2] at e1
  have := Option.some.inj e1
  unfold letK at this
  omega
theorem NamesAt.snoc {p first : Nat} {ns : List Str} {z : Str} (h : NamesAt p first ns) (hz : isNm z = true) (ha : z.cps[p]? = some (letK first ns.length)) : NamesAt p first (ns ++ [z]) := by
  refine ⟨fun y hy => ?_, fun j y hy => ?_⟩
  · rcases List.mem_append.mp hy with q | q
    · exact h.good y q
    · rw [List.mem_singleton.mp q]; exact hz
  · by_cases hj : j < ns.length
    · rw [List.getElem?_append_left hj] at hy
      exact h.at_ j y hy
    · rw [List.getElem?_append_right (by omega)] at hy
      have : j = ns.length := by
        rcases Nat.lt_or_ge 0 (j - ns.length) with c | c
        · rw [List.getElem?_eq_none (by simp; omega)] at hy; cases hy
        · omega
      subst this
      simp at hy
      rw [← hy]; exact ha
def spNames : Sp := fun vs H Q _ => ∃ (st sc : Addr) (n : Int), vs = [.ref st, .int n] ∧ 0 ≤ n ∧ n ≤ 20 ∧ StOk H st sc ∧
  ∀ (p : Addr) (ns : List Str) (H' : Hp), Keep st H H' → StOk H' st sc → H p = none → p ≠ st → p ≠ sc → H' p = some (.lst (ns.map V.str)) → (ns.length : Int) = n → Names ns → Q (.ref p) H'
theorem StOk.at {H : Hp} {st sc : Addr} (h : StOk H st sc) : ∃ L, H st = some (.lst L) := by
  obtain ⟨cs, i, d, c, s, h1, _⟩ := h
  exact ⟨_, h1⟩
theorem StOk.scat {H : Hp} {st sc : Addr} (h : StOk H st sc) : ∃ L, H sc = some (.lst L) := by
  obtain ⟨cs, i, d, c, s, h1, h2, _⟩ := h
  exact ⟨_, h2⟩
theorem StOk.other {H : Hp} {st sc p : Addr} {o : HO} (h : StOk H st sc) (hp : p ≠ st) (hq : p ≠ sc) : StOk (upd H p o) st sc := by
  obtain ⟨cs, i, d, c, s, h1, h2, r⟩ := h
  exact ⟨cs, i, d, c, s, by rw [upd_ne (Ne.symm hp)]; exact h1, by rw [upd_ne (Ne.symm hq)]; exact h2, r⟩
theorem StOk.ne {H : Hp} {st sc p : Addr} (h : StOk H st sc) (hp : H p = none) : p ≠ st ∧ p ≠ sc := by
  obtain ⟨L, h1⟩ := h.at
  obtain ⟨M, h2⟩ := h.scat
  exact ⟨Ne.symm (ne_of_none h1 hp), Ne.symm (ne_of_none h2 hp)⟩
theorem StOk.new {H : Hp} {st sc p : Addr} {o : HO} (h : StOk H st sc) (hp : H p = none) : StOk (upd H p o) st sc :=
  h.other (h.ne hp).1 (h.ne hp).2
section
variable {P : Program} {w : World} {K : PySem.W.Frag} {mg : Str → Option Value} {base : Heap}
theorem ok_state (T : Tops w K mg) : FnOk P w K mg base CX0 1 T.a__law_state T.d__law_state ["_law_script"] (spState K) := by
  refine T.F__law_state.ok sc_law_state (fun vs H Q E h => ?_) (fun cdv A outer s H vs Q E hr h => ?_)
  · obtain ⟨a, ns, rfl, _⟩ := h
    rfl
  obtain ⟨a, ns, rfl, hS, hl, q⟩ := h
  refine ⟨_, (pss_one (ps_ret (pe_lst (pa_cons (pe_callTy call_list_of rfl T.z_list (by decide +kernel) (pa_cons (pe_slice sl_list (pv 0) po_none (po_some pe_int)) pa_nil)) (pa_cons pe_int (pa_cons pe_int (pa_cons pe_int (pa_cons pe_int pa_nil)))))))), ?_⟩
  have hcut : cutV (ns.map V.int) none (some 63) = ns.map V.int := by
    unfold cutV
    rw [HT.sIx_none, show HT.sIx (ns.map V.int).length (ns.map V.int).length (some 63) = min 63 (ns.map V.int).length from HT.sIx_nat _ _ 63]
    rw [List.drop_zero, List.take_of_length_le (by rw [List.length_map]; omega)]
  refine ⟨_, rfl, 63, rfl, a, _, rfl, hS, fun p hp => ⟨p, _, rfl, .inl (SqL.of upd_same), fun l hl2 => ⟨by show 5 ≤ sizeLine; decide, fun st hst => ?_⟩⟩⟩
  rw [hcut] at hl2 hst ⊢
  have npl : p ≠ l := fun e => by rw [e, upd_same] at hl2; cases hl2
  have hl0 : H l = none := by rw [upd_ne (Ne.symm npl)] at hl2; exact hl2
  have nls : l ≠ st := fun e => by rw [e, upd_same] at hst; cases hst
  have hst2 : H st = none := by
    rw [upd_ne (Ne.symm nls)] at hst
    by_cases c : st = p
    · rw [c, upd_same] at hst; cases hst
    · rw [upd_ne c] at hst; exact hst
  refine q st l _ (fun b o e => ?_) hst2 hl0 ⟨ns, 0, 0, 0, 1, upd_same, by rw [upd_ne nls, upd_same], by decide, by decide, by omega, hl, nls⟩
  rw [upd_ne (ne_of_none e hst2), upd_ne (ne_of_none e hl0), upd_ne (ne_of_none e hp)]
  exact e
theorem ok_names (T : Tops w K mg) (G__law_draw : FnOk P w K mg base CX0 1 T.a__law_draw T.d__law_draw ["_law_state_here", "_law_many_here"] spDraw) :
    FnOk P w K mg base CX0 2 T.a__law_names T.d__law_names ["_law_state_here", "_law_many_here"] spNames := by
  refine T.F__law_names.ok sc_law_names (fun vs H Q E h => ?_) (fun cdv A outer s H vs Q E hr h => ?_)
  · obtain ⟨st, sc, m, rfl, _⟩ := h
    rfl
  obtain ⟨st, sc, n, rfl, hn0, hn1, hst, q⟩ := h
  refine ⟨_, (pss_cons (ps_set (i := 2) sc_law_names.nd rfl (Or.inl rfl) (pe_call G__law_draw (hr.mono (by omega)) rfl T.m__law_draw T.F__law_draw.kp T.b__law_draw .nil pass0 (pa_cons (pv 0) (pa_cons pe_int pa_nil))))
    (pss_cons (ps_set (i := 3) sc_law_names.nd rfl (Or.inl rfl) (pe_call G__law_draw (hr.mono (by omega)) rfl T.m__law_draw T.F__law_draw.kp T.b__law_draw .nil pass0 (pa_cons (pv 0) (pa_cons pe_int pa_nil))))
    (pss_cons (ps_set (i := 4) sc_law_names.nd rfl (Or.inl rfl) (pe_call G__law_draw (hr.mono (by omega)) rfl T.m__law_draw T.F__law_draw.kp T.b__law_draw .nil pass0 (pa_cons (pv 0) (pa_cons pe_int pa_nil))))
    (pss_cons (ps_set (i := 5) sc_law_names.nd rfl (Or.inl rfl) (pe_call G__law_draw (hr.mono (by omega)) rfl T.m__law_draw T.F__law_draw.kp T.b__law_draw .nil pass0 (pa_cons (pv 0) (pa_cons (pe_op op_pow pe_int pe_int) pa_nil))))
    (pss_cons (ps_set (i := 6) sc_law_names.nd rfl (Or.inl rfl) pe_str)
    (pss_cons (ps_set (i := 7) sc_law_names.nd rfl (Or.inl rfl) (pe_lst pa_nil))
    (pss_cons (ps_for PassesOwn.never rfl (pi_range1 rfl T.z_range (pa_cons (pv 1) pa_nil)) (pg_name (i := 8) sc_law_names.nd rfl (Or.inl rfl)) (pss_cons (ps_set (i := 9) sc_law_names.nd rfl (Or.inl rfl) (pv 5))
    (pss_cons (ps_set (i := 10) sc_law_names.nd rfl (Or.inl rfl) (pe_op op_add (pv 2) pe_int))
    (C8.pss_cut (ps_if (pt_cmpR op_eq (pv 4) pe_int (nomark _)) (pss_cons (ps_set (i := 9) sc_law_names.nd rfl (Or.inl rfl) (pe_call G__law_draw (hr.mono (by omega)) rfl T.m__law_draw T.F__law_draw.kp T.b__law_draw .nil pass0 (pa_cons (pv 0) (pa_cons (pe_op op_pow pe_int pe_int) pa_nil))))
    (pss_one (ps_set (i := 10) sc_law_names.nd rfl (Or.inl rfl) (pe_op op_add (pe_op op_add (pv 2) pe_int) (pe_call G__law_draw (hr.mono (by omega)) rfl T.m__law_draw T.F__law_draw.kp T.b__law_draw .nil pass0 (pa_cons (pv 0) (pa_cons (pe_op op_sub pe_int (pv 2)) pa_nil))))))) pss_nil)
    (pss_cons (ps_set (i := 11) sc_law_names.nd rfl (Or.inl rfl) pe_str)
    (pss_cons (ps_for PassesOwn.never rfl (pi_range1 rfl T.z_range (pa_cons (pv 10) pa_nil)) (pg_name (i := 12) sc_law_names.nd rfl (Or.inl rfl)) (pss_one (ps_if (pt_cmpR op_eq (pv 12) (pv 2) (nomark _)) (pss_one (ps_set (i := 11) sc_law_names.nd rfl (Or.inl rfl) (pe_op op_add_str (pv 11) (pe_ix ix_str (pv 6) (pe_op op_modN (pe_callTy call_int1 rfl T.z_int (by decide +kernel) (pa_cons (pe_op op_add (pv 3) (pe_op op_mul pe_int (pv 8))) pa_nil)) pe_int) (fun _ _ => rfl))))) (pss_cons (ps_set (i := 11) sc_law_names.nd rfl (Or.inl rfl) (pe_op op_add_str (pv 11) (pe_ix ix_str (pv 6) (pe_op op_modN (pe_callTy call_int1 rfl T.z_int (by decide +kernel) (pa_cons (pv 9) pa_nil)) pe_int) (fun _ _ => rfl))))
    (pss_one (ps_set (i := 9) sc_law_names.nd rfl (Or.inl rfl) (pe_op op_fdivW (pv 9) pe_int)))))))
    (pss_one (ps_expr (pe_bm PySem.F.plainAttrs_list PySem.F.slot_list_append PySem.F.type_list_append mt_append (pv 7) (pa_cons (pv 11) pa_nil))))))))))
    (pss_one (ps_ret (pv 7)))))))))), ?_⟩
  refine ⟨_, rfl, st, sc, 8, rfl, by decide, by decide, hst, fun pl H1 pl0 pl1 k1 s1 _ => ?_⟩
  refine ⟨_, rfl, st, sc, 26, rfl, by decide, by decide, s1, fun fi H2 fi0 fi1 k2 s2 _ => ?_⟩
  refine ⟨_, rfl, st, sc, 2, rfl, by decide, by decide, s2, fun sh H3 sh0 sh1 k3 s3 _ => ?_⟩
  refine ⟨_, rfl, _, _, rfl, rfl, ⟨by decide, by decide, by decide⟩, st, sc, _, rfl, by decide, by decide, s3, fun ba H4 ba0 ba1 k4 s4 _ => ?_⟩
  have k04 : Keep st H H4 := k1.trans (k2.trans (k3.trans k4))
  refine ⟨Nat.zero_le _, fun p hp => ?_⟩
  obtain ⟨nps, npc⟩ := s4.ne hp
  have hp0 : H p = none := k04.free nps hp
  refine ⟨_, rfl, n, rfl, by omega, by omega, for_range (lo := 0) (n := n.toNat) (fun i σ H' => ∃ (v8 v9 v10 v11 v12 : Option V) (ns : List Str),
    σ = [some (.ref st), some (.int n), some (.int pl), some (.int fi), some (.int sh), some (.int ba), some (.str abc), some (.ref p), v8, v9, v10, v11, v12] ∧
    Keep st H H' ∧ StOk H' st sc ∧ H' p = some (.lst (ns.map V.str)) ∧ ns.length = i ∧ NamesAt pl.toNat fi.toNat ns)
    ⟨none, none, none, none, none, [], rfl, k04.trans (Keep.new hp), s4.new hp, upd_same, rfl, ⟨fun z h => (List.not_mem_nil h).elim, fun j z h => by simp at h⟩⟩ ?_ ?_⟩
  · rintro i σ H' hi ⟨v8, v9, v10, v11, v12, ns, rfl, kH, sH, hpH, hlen, hN⟩
    refine ⟨_, rfl, _, rfl, _, _, rfl, rfl, ?_⟩
    refine ⟨fun σ' H'' => ∃ (o sz : Int), σ' = [some (.ref st), some (.int n), some (.int pl), some (.int fi), some (.int sh), some (.int ba), some (.str abc), some (.ref p), some (.int (0 + i)), some (.int o), some (.int sz), v11, v12] ∧
      Keep st H H'' ∧ StOk H'' st sc ∧ H'' p = some (.lst (ns.map V.str)) ∧ 0 ≤ o ∧ pl + 1 ≤ sz ∧ sz ≤ 8, ?_, ?_⟩
    · refine ⟨_, rfl, rfl, _, rfl, ?_⟩
      refine ite2 (fun _ => ?_) (fun _ => ⟨ba, pl + 1, rfl, kH, sH, hpH, ba0, by omega, by omega⟩)
      refine ⟨_, rfl, _, _, rfl, rfl, ⟨by decide, by decide, by decide⟩, st, sc, _, rfl, by decide, by decide, sH, fun o H5 o0 o1 k5 s5 _ => ?_⟩
      refine ⟨_, rfl, _, _, rfl, rfl, _, rfl, _, rfl, _, _, rfl, rfl, st, sc, _, rfl, by omega, by omega, s5, fun sz H6 z0 z1 k6 s6 _ => ⟨_, _, rfl, rfl, ?_⟩⟩
      exact ⟨o, _, rfl, kH.trans (k5.trans k6), s6, k6 _ _ nps (k5 _ _ nps hpH), o0, by omega, by omega⟩
    · rintro σ' H'' ⟨o, sz, rfl, kJ, sJ, hpJ, o0, sz0, sz1⟩
      -- name = ''; for at in range(size)
      refine ⟨_, rfl, sz, rfl, by omega, by omega, for_range (lo := 0) (n := sz.toNat) (fun j σ H5 => ∃ (o : Int) (z : Str) (v12 : Option V),
        σ = [some (.ref st), some (.int n), some (.int pl), some (.int fi), some (.int sh), some (.int ba), some (.str abc), some (.ref p), some (.int (0 + i)), some (.int o), some (.int sz), some (.str z), v12] ∧
        H5 = H'' ∧ 0 ≤ o ∧ z.length = j ∧ z.cps.toList.all lowc = true ∧ (pl.toNat < j → z.cps[pl.toNat]? = some (letK fi.toNat i)))
        ⟨o, "", v12, rfl, rfl, o0, by decide +kernel, by decide +kernel, fun h => by omega⟩ ?_ ?_⟩
      · rintro j σ H5 hj ⟨o, z, v12, rfl, rfl, o0, zl, za, zp⟩
        have zsz : z.length + 1 ≤ sizeLine := Nat.le_of_lt (small1000 (by omega))
        refine ⟨_, rfl, _, rfl, rfl, _, rfl, ?_⟩
        refine ite2 (fun c => ?_) (fun c => ?_)
        · have c' : (V.int (0 + (j : Int))) = V.int pl := of_decide_eq_true c
          have cj : (0 : Int) + (j : Int) = pl := by injection c'
          have m0 : 0 ≤ Int.fmod (fi + 7 * (0 + (i : Int))) 26 ∧ Int.fmod (fi + 7 * (0 + (i : Int))) 26 < 26 := by
            rw [Int.fmod_eq_emod_of_nonneg _ (by decide)]
            exact ⟨Int.emod_nonneg _ (by decide), Int.emod_lt_of_pos _ (by decide)⟩
          have mk : (Int.fmod (fi + 7 * (0 + (i : Int))) 26).toNat = (fi.toNat + 7 * i) % 26 := by
            rw [Int.fmod_eq_emod_of_nonneg _ (by decide)]
            omega
          refine ⟨_, rfl, _, rfl, _, rfl, _, rfl, _, _, rfl, rfl, .inl ⟨by decide, by decide⟩, _, _, rfl, rfl, .inl ⟨_, rfl, _, _, rfl, rfl, (by show (26 : Int) ≠ 0; decide), abc, _, _, rfl, rfl, abc_len, abc_at m0.1 m0.2, _, _, rfl, rfl, zsz, ?_⟩⟩
          refine ⟨o, _, _, rfl, rfl, o0, by rw [add_len, zl], add_low za (low_of m0.1 m0.2), fun _ => ?_⟩
          have hz : z.length = pl.toNat := by omega
          have e := add_new z (97 + (Int.fmod (fi + 7 * (0 + (i : Int))) 26).toNat)
          rw [hz, mk] at e
          unfold letK
          rw [mk]
          exact e
        · have m0 : 0 ≤ Int.fmod o 26 ∧ Int.fmod o 26 < 26 := by
            rw [Int.fmod_eq_emod_of_nonneg _ (by decide)]
            exact ⟨Int.emod_nonneg _ (by decide), Int.emod_lt_of_pos _ (by decide)⟩
          refine ⟨_, rfl, _, rfl, _, rfl, .inl ⟨_, rfl, _, _, rfl, rfl, (by show (26 : Int) ≠ 0; decide), abc, _, _, rfl, rfl, abc_len, abc_at m0.1 m0.2, _, _, rfl, rfl, zsz, ?_⟩⟩
          refine ⟨_, rfl, _, _, rfl, rfl, wide_div (b := 64) (by decide) (by decide) (by decide) (by decide), ?_⟩
          refine ⟨o / 26, _, _, rfl, rfl, Int.ediv_nonneg o0 (by decide), by rw [add_len, zl], add_low za (low_of m0.1 m0.2), fun hlt => ?_⟩
          have hne : ¬ (V.int (0 + (j : Int)) = V.int pl) := of_decide_eq_false (Bool.eq_false_iff.mpr c)
          have hne2 : ¬ ((0 : Int) + (j : Int) = pl) := fun e => hne (by rw [e])
          exact add_old (zp (by omega))
      · rintro σ H5 ⟨o, z, v12, rfl, rfl, o0, zl, za, zp⟩
        have hns : (ns.map V.str).length < sizeLine := small1000 (by rw [List.length_map]; omega)
        refine ⟨_, rfl, .inl ⟨rfl, _, SqL.of hpJ⟩, _, rfl, p, _, _, rfl, rfl, hpJ, hns, ?_⟩
        have hnm : isNm z = true := by
          unfold isNm
          rw [za, zl]
          simp
          omega
        refine ⟨_, _, _, _, _, ns ++ [z], rfl, kJ.own hp0, sJ.other nps npc, ?_, ?_, ?_⟩
        · rw [upd_same, List.map_append]; rfl
        · rw [List.length_append, hlen]; rfl
        · exact hN.snoc hnm (by rw [hlen]; exact zp (by omega))
  · rintro σ H' ⟨v8, v9, v10, v11, v12, ns, rfl, kH, sH, hpH, hlen, hN⟩
    refine ⟨_, rfl, q p ns H' kH sH hp0 nps npc hpH (by omega) ⟨hN.good, hN.nodup (by omega)⟩⟩
end
end K01
namespace K01
open PySem PySem.Spec PyProof.Rows L2 Td
/-- all rows, counted at all depths; n: how deep it may still go -/
def spMany (K : PySem.W.Frag) (n : Nat) : Sp := fun vs H Q _ => ∃ (v : V) (rs : List Td.Row) (S : Sc) (dep : Nat),
  vs = [v] ∧ Dp K H v (.tuple (rowsD rs)) ∧ okRs S dep rs ∧ dep ≤ 4 ∧ 5 ≤ dep + n ∧ Q (.int (cnts rs : Nat)) H
section
variable {P : Program} {w : World} {K : PySem.W.Frag} {mg : Str → Option Value} {base : Heap}
theorem ok_many1 (T : Tops w K mg) {n : Nat} (G__law_many : FnOk P w K mg base CX0 n T.a__law_many T.d__law_many ["_law_rows_here"] (spMany K n)) :
    FnOk P w K mg base CX0 (n + 1) T.a__law_many T.d__law_many ["_law_rows_here"] (spMany K (n + 1)) := by
  refine T.F__law_many.ok sc_law_many (fun vs H Q E h => ?_) (fun cdv A outer s H vs Q E hr h => ?_)
  · obtain ⟨v, rs, S, dep, rfl, _⟩ := h
    rfl
  obtain ⟨v, rs, S, dep, rfl, hD, ok, hdep, hn, q⟩ := h
  obtain ⟨a, xs, rfl, hS, hl, hx⟩ := rows_at hD
  refine ⟨_, (pss_cons (ps_set (i := 1) sc_law_many.nd rfl (Or.inl rfl) (pe_callB call_len rfl T.z_len PySem.boot_len (pa_cons (pv 0) pa_nil)))
    (pss_cons (ps_for PassesOwn.never rfl (pi_tup (pv 0)) (pg_name (i := 2) sc_law_many.nd rfl (Or.inl rfl)) (pss_one (ps_if (pt_cmpR op_eq (pe_ix ix_tup (pv 2) pe_int (fun _ _ => rfl)) pe_str (nomark _)) (pss_one (ps_aug (i := 1) sc_law_many.nd rfl (Or.inl rfl) (pe_op op_add (pe_call G__law_many (hr.mono (by omega)) rfl T.m__law_many T.F__law_many.kp T.b__law_many .nil pass0 (pa_cons (pe_ix ix_tup (pv 2) pe_int (fun _ _ => rfl)) pa_nil)) (pe_call G__law_many (hr.mono (by omega)) rfl T.m__law_many T.F__law_many.kp T.b__law_many .nil pass0 (pa_cons (pe_ix ix_tup (pv 2) pe_int (fun _ _ => rfl)) pa_nil))) ip_add)) pss_nil)))
    (pss_one (ps_ret (pv 1))))), ?_⟩
  refine ⟨_, rfl, _, _, rfl, .inr ⟨_, hS, rfl⟩, ?_⟩
  refine ⟨_, rfl, a, rfl, ⟨_, hS⟩, for_tup (K := K) (a := a) (xs := xs) (fun i σ H' => ∃ (v2 : Option V), H' = H ∧
    σ = [some (.ref a), some (.int ((cnts (rs.take i) + (rs.length - i) : Nat) : Int)), v2])
    ⟨none, rfl, ?_⟩ (fun i σ H' _ ⟨_, e, _⟩ => by rw [e]; exact hS) ?_ ?_⟩
  · show [some (V.ref a), some (V.int (xs.length : Nat)), none] = _
    rw [hl]
    simp [cnts]
  · rintro i x σ H' hi ⟨v2, rfl, rfl⟩
    obtain ⟨r, hr2, hDr⟩ := hx i x hi
    have hil : i < rs.length := (List.getElem?_eq_some_iff.mp hr2).1
    have okr := okRs_get ok hr2
    have step := cnts_take hr2
    have hp := cnt_pos r
    cases hite : isIte r with
    | false =>
      obtain ⟨ar, ys, rfl, hSr, h0⟩ := row_at hDr
      refine ⟨_, rfl, ar, _, 0, _, rfl, rfl, hSr, atI_nat (j := 0) h0, rfl, _, rfl, ?_⟩
      refine if_false_of ((tag_if r).trans hite) ⟨some (.ref ar), rfl, ?_⟩
      have hc := cnt_flat hite
      have e : cnts (rs.take i) + (rs.length - i) = cnts (rs.take (i + 1)) + (rs.length - (i + 1)) := by omega
      rw [← e]; rfl
    | true =>
      cases r with
      | ite sl wd y n' =>
        obtain ⟨ar, vy, vn, rfl, hSr, hy, hn'⟩ := ite_at hDr
        unfold okR at okr
        obtain ⟨hd3, _, _, oy, on⟩ := okr
        refine ⟨_, rfl, ar, _, 0, _, rfl, rfl, hSr, rfl, rfl, _, rfl, ?_⟩
        refine if_true_of (by decide +kernel) ?_
        refine ⟨_, rfl, _, rfl, ar, _, 3, _, rfl, rfl, hSr, rfl, vy, y, S, dep + 1, rfl, hy, oy, by omega, by omega, ?_⟩
        refine ⟨_, rfl, ar, _, 4, _, rfl, rfl, hSr, rfl, vn, n', S, dep + 1, rfl, hn', on, by omega, by omega, ?_⟩
        refine ⟨_, _, rfl, rfl, _, _, rfl, rfl, some (.ref ar), rfl, ?_⟩
        have ec : Td.cnt (.ite sl wd y n') = 1 + cnts y + cnts n' := by unfold Td.cnt; rfl
        have e : ((cnts (rs.take i) + (rs.length - i) : Nat) : Int) + ((cnts y : Nat) + (cnts n' : Nat)) = ((cnts (rs.take (i + 1)) + (rs.length - (i + 1)) : Nat) : Int) := by omega
        rw [← e]; rfl
      | _ => cases hite
  · rintro σ H' ⟨v2, rfl, rfl⟩
    refine ⟨_, rfl, ?_⟩
    rw [hl, List.take_length, Nat.sub_self, Nat.add_zero]
    exact q
theorem ok_many (T : Tops w K mg) : ∀ n, FnOk P w K mg base CX0 n T.a__law_many T.d__law_many ["_law_rows_here"] (spMany K n)
  | 0 => by
    have no : ∀ vs H Q E, ¬ spMany K 0 vs H Q E := fun vs H Q E h => by
      obtain ⟨_, _, _, dep, _, _, _, h1, h2, _⟩ := h
      omega
    exact ⟨fun vs H Q E h => absurd h (no vs H Q E), fun A outer s H args us vs Q E _ _ _ _ h => absurd h (no vs H Q E)⟩
  | n + 1 => ok_many1 T (ok_many T n)
end
end K01
namespace K01
open PySem PySem.Spec PyProof.Rows L2 Td
/-- the dict that says what a body may be, at d -/
structure ShapeAt (K : PySem.W.Frag) (st : Addr) (H : Hp) (d : Addr) (S : Sc) (slots : List Str) : Prop where
  ex : ∃ (kvs : List (Key × V)) (aw asl ac aso : Addr) (pk wr : Bool),
    H d = some (.dK kvs) ∧ kvs.length ≤ 100 ∧
    valV kvs (.inr "words") = some (.ref aw) ∧ SqT K H aw (S.words.map V.str) ∧ aw ≠ st ∧
    valV kvs (.inr "slots") = some (.ref asl) ∧ SqL K H asl (slots.map V.str) ∧ asl ≠ st ∧
    valV kvs (.inr "cells") = some (.ref ac) ∧ SqL K H ac (S.readable.map V.str) ∧ ac ≠ st ∧
    valV kvs (.inr "sources") = some (.ref aso) ∧ SqT K H aso (S.sources.map V.str) ∧ aso ≠ st ∧
    valV kvs (.inr "kind") = some (.str (if S.eff then "effects" else "derived")) ∧
    valV kvs (.inr "peeks") = some (.bl pk) ∧ valV kvs (.inr "writes") = some (.bl wr) ∧ (pk = true → S.eff = true) ∧ (wr = true → S.eff = true)
  ne : d ≠ st
  w0 : S.words ≠ []
  s0 : slots ≠ []
  c0 : S.readable ≠ []
  o0 : S.sources ≠ []
  small : S.words.length ≤ 100 ∧ slots.length ≤ 100 ∧ S.readable.length ≤ 100 ∧ S.sources.length ≤ 100
  good : ∀ z ∈ slots, isNm z = true
section
variable {K : PySem.W.Frag} {H H' : Hp} {st sc d : Addr} {S : Sc} {slots : List Str}
theorem ShapeAt.keep (h : ShapeAt K st H d S slots) (k : Keep st H H') : ShapeAt K st H' d S slots := by
  obtain ⟨kvs, aw, asl, ac, aso, pk, wr, e0, e00, e1, e2, e3, e4, e5, e6, e7, e8, e9, e10, e11, e12, r⟩ := h.ex
  exact ⟨⟨kvs, aw, asl, ac, aso, pk, wr, k _ _ h.ne e0, e00, e1, SqT.keep k e3 e2, e3, e4, SqL.keep k e6 e5, e6, e7, SqL.keep k e9 e8, e9, e10, SqT.keep k e12 e11, e12, r⟩, h.ne, h.w0, h.s0, h.c0, h.o0, h.small, h.good⟩
theorem dget_of {a : Addr} {kvs : List (Key × V)} {z : Str} {v : V} (e : H a = some (.dK kvs)) (h : valV kvs (.inr z) = some v) : DGet H a (.str z) (some v) := by
  rw [← h]; exact DGet.k (k := Sum.inr z) e
/-- an item, drawn -/
theorem pick {xs : List Str} {r : Int} (h0 : 0 ≤ r) (h1 : r < (xs.map V.str).length) : ∃ z ∈ xs, atI (xs.map V.str) r = some (.str z) := by
  rw [List.length_map] at h1
  have hl : r.toNat < xs.length := by omega
  refine ⟨xs[r.toNat], List.getElem_mem hl, ?_⟩
  have : atI (xs.map V.str) ((r.toNat : Nat) : Int) = some (V.str xs[r.toNat]) := atI_nat (by rw [List.getElem?_map, List.getElem?_eq_getElem hl]; rfl)
  rwa [show ((r.toNat : Nat) : Int) = r by omega] at this
def rLen (K : PySem.W.Frag) : List V → Hp → VK → Prop := fun xs H Q => ∃ x n, xs = [x] ∧ LenV K x H n ∧ Q (.int n) H
def tPick (K : PySem.W.Frag) (r : R2) (key : Str) : TE := tOp r (tDGet (tVar 1) (tC (.str key)))
  (tCall spDraw [] E0 (tCons (tVar 0) (tCons (tCB (rLen K) (tCons (tDGet (tVar 1) (tC (.str key))) tNil)) tNil)))
theorem pick_l {σ : L2.St} {Q : VK} {key : Str} {kvs : List (Key × V)} {a : Addr} {xs : List Str} (h0 : σ[0]? = some (some (.ref st))) (h1 : σ[1]? = some (some (.ref d)))
    (hd : H d = some (.dK kvs)) (nd : d ≠ st) (hv : valV kvs (.inr key) = some (.ref a)) (hS : SqL K H a (xs.map V.str)) (na : a ≠ st) (hx : xs ≠ []) (hl : xs.length ≤ 100) (ok : StOk H st sc)
    (q : ∀ z ∈ xs, ∀ H', Keep st H H' → StOk H' st sc → Q (.str z) H') : tPick K (rIxL K) key σ H Q := by
  have hp : 0 < xs.length := List.length_pos_iff.mpr hx
  refine ⟨_, h1, d, _, rfl, dget_of hd hv, _, h0, _, h1, d, _, rfl, dget_of hd hv, _, (xs.map V.str).length, rfl, .inl ⟨_, hS, rfl⟩, st, sc, _, rfl, ?_, ?_, ok, fun r H' r0 r1 k o _ => ?_⟩
  · rw [List.length_map]; omega
  · rw [List.length_map]; omega
  · obtain ⟨z, hz, e⟩ := pick r0 r1
    exact ⟨a, _, r, _, rfl, rfl, SqL.keep k na hS, e, q z hz H' k o⟩
theorem pick_t {σ : L2.St} {Q : VK} {key : Str} {kvs : List (Key × V)} {a : Addr} {xs : List Str} (h0 : σ[0]? = some (some (.ref st))) (h1 : σ[1]? = some (some (.ref d)))
    (hd : H d = some (.dK kvs)) (nd : d ≠ st) (hv : valV kvs (.inr key) = some (.ref a)) (hS : SqT K H a (xs.map V.str)) (na : a ≠ st) (hx : xs ≠ []) (hl : xs.length ≤ 100) (ok : StOk H st sc)
    (q : ∀ z ∈ xs, ∀ H', Keep st H H' → StOk H' st sc → Q (.str z) H') : tPick K (rIxT K) key σ H Q := by
  have hp : 0 < xs.length := List.length_pos_iff.mpr hx
  refine ⟨_, h1, d, _, rfl, dget_of hd hv, _, h0, _, h1, d, _, rfl, dget_of hd hv, _, (xs.map V.str).length, rfl, .inr ⟨_, hS, rfl⟩, st, sc, _, rfl, ?_, ?_, ok, fun r H' r0 r1 k o _ => ?_⟩
  · rw [List.length_map]; omega
  · rw [List.length_map]; omega
  · obtain ⟨z, hz, e⟩ := pick r0 r1
    exact ⟨a, _, r, _, rfl, rfl, SqT.keep k na hS, e, q z hz H' k o⟩
end
def spRow (K : PySem.W.Frag) : Sp := fun vs H Q _ => ∃ (st sc d : Addr) (S : Sc) (slots : List Str), vs = [.ref st, .ref d] ∧ StOk H st sc ∧ ShapeAt K st H d S slots ∧
  ∀ (v : V) (r : Td.Row) (H' : Hp), Keep st H H' → StOk H' st sc → (∀ dep, okR S dep r) → isIte r = false → Tn K H' v (rowD r) → Q v H'
section
variable {P : Program} {w : World} {K : PySem.W.Frag} {mg : Str → Option Value} {base : Heap}
theorem ok_row (T : Tops w K mg) (G__law_draw : FnOk P w K mg base CX0 1 T.a__law_draw T.d__law_draw ["_law_state_here", "_law_many_here"] spDraw) :
    FnOk P w K mg base CX0 2 T.a__law_row T.d__law_row ["_law_state_here", "_law_shape"] (spRow K) := by
  refine T.F__law_row.ok sc_law_row (fun vs H Q E h => ?_) (fun cdv A outer s H vs Q E hr h => ?_)
  · obtain ⟨st, sc, d, S, slots, rfl, _⟩ := h
    rfl
  obtain ⟨st, sc, d, S, slots, rfl, ok, sh, q⟩ := h
  refine ⟨_, (pss_cons (ps_set (i := 2) sc_law_row.nd rfl (Or.inl rfl) (pe_call G__law_draw (hr.mono (by omega)) rfl T.m__law_draw T.F__law_draw.kp T.b__law_draw .nil pass0 (pa_cons (pv 0) (pa_cons pe_int pa_nil))))
    (pss_cons (ps_set (i := 3) sc_law_row.nd rfl (Or.inl rfl) (pe_ix ix_list (pe_dget (hu_of hr) (pv 1) pe_str (fun _ _ => rfl)) (pe_call G__law_draw (hr.mono (by omega)) rfl T.m__law_draw T.F__law_draw.kp T.b__law_draw .nil pass0 (pa_cons (pv 0) (pa_cons (pe_callB call_len rfl T.z_len PySem.boot_len (pa_cons (pe_dget (hu_of hr) (pv 1) pe_str (fun _ _ => rfl)) pa_nil)) pa_nil))) (fun _ _ => rfl)))
    (pss_cons (ps_if (pt_cmpR op_eq (pv 2) pe_int (nomark _)) (pss_one (ps_ret (pe_tup (pa_cons pe_str (pa_cons (pv 3) (pa_cons (pe_ix ix_tup (pe_dget (hu_of hr) (pv 1) pe_str (fun _ _ => rfl)) (pe_call G__law_draw (hr.mono (by omega)) rfl T.m__law_draw T.F__law_draw.kp T.b__law_draw .nil pass0 (pa_cons (pv 0) (pa_cons (pe_callB call_len rfl T.z_len PySem.boot_len (pa_cons (pe_dget (hu_of hr) (pv 1) pe_str (fun _ _ => rfl)) pa_nil)) pa_nil))) (fun _ _ => rfl)) pa_nil)))))) pss_nil)
    (C8.pss_cut (ps_if (PW.pt (pw_and (pt_cmpR op_eq (pv 2) pe_int (nomark _)) (pw_and1 (pt_cmpR op_eq (pe_dget (hu_of hr) (pv 1) pe_str (fun _ _ => rfl)) pe_str (nomark _))))) (pss_one (ps_ret (pe_tup (pa_cons pe_str (pa_cons (pv 3) pa_nil))))) pss_nil)
    (pss_cons (ps_if (pt_cmpR op_eq (pv 2) pe_int (nomark _)) (pss_one (ps_ret (pe_tup (pa_cons pe_str (pa_cons (pv 3) pa_nil))))) pss_nil)
    (C8.pss_cut (ps_if (PW.pt (pw_and (pt_cmpR op_eq (pv 2) pe_int (nomark _)) (pw_and1 (pt_val (pe_dget (hu_of hr) (pv 1) pe_str (fun _ _ => rfl)))))) (pss_one (ps_ret (pe_tup (pa_cons pe_str (pa_cons (pe_ix ix_tup (pe_dget (hu_of hr) (pv 1) pe_str (fun _ _ => rfl)) (pe_call G__law_draw (hr.mono (by omega)) rfl T.m__law_draw T.F__law_draw.kp T.b__law_draw .nil pass0 (pa_cons (pv 0) (pa_cons (pe_callB call_len rfl T.z_len PySem.boot_len (pa_cons (pe_dget (hu_of hr) (pv 1) pe_str (fun _ _ => rfl)) pa_nil)) pa_nil))) (fun _ _ => rfl)) (pa_cons (pv 3) pa_nil)))))) pss_nil)
    (pss_cons (ps_set (i := 4) sc_law_row.nd rfl (Or.inl rfl) (pe_ix ix_list (pe_dget (hu_of hr) (pv 1) pe_str (fun _ _ => rfl)) (pe_call G__law_draw (hr.mono (by omega)) rfl T.m__law_draw T.F__law_draw.kp T.b__law_draw .nil pass0 (pa_cons (pv 0) (pa_cons (pe_callB call_len rfl T.z_len PySem.boot_len (pa_cons (pe_dget (hu_of hr) (pv 1) pe_str (fun _ _ => rfl)) pa_nil)) pa_nil))) (fun _ _ => rfl)))
    (C8.pss_cut (ps_if (PW.pt (pw_and (pt_cmpR op_eq (pv 2) pe_int (nomark _)) (pw_and1 (pt_val (pe_dget (hu_of hr) (pv 1) pe_str (fun _ _ => rfl)))))) (pss_one (ps_ret (pe_tup (pa_cons pe_str (pa_cons (pv 4) (pa_cons (pv 3) pa_nil)))))) pss_nil)
    (pss_one (ps_ret (pe_tup (pa_cons pe_str (pa_cons (pv 4) (pa_cons (pv 3) pa_nil)))))))))))))), ?_⟩
  -- kind, slot
  refine ⟨_, rfl, st, sc, 6, rfl, by decide, by decide, ok, fun kd H1 kd0 kd1 k1 o1 _ => ?_⟩
  have sh1 := sh.keep k1
  obtain ⟨kvs, aw, asl, ac, aso, pk, wr, e0, e00, e1, e2, e3, e4, e5, e6, e7, e8, e9, e10, e11, e12, e13, e14, e15, e16, e17⟩ := sh1.ex
  refine pick_l (key := "slots") rfl rfl e0 sh1.ne e4 e5 e6 sh1.s0 sh1.small.2.1 o1 fun sl hsl H2 k2 o2 => ?_
  have hsl' := sh.good sl hsl
  have k12 := k1.trans k2
  have sh2 := sh1.keep k2
  obtain ⟨kvs, aw, asl, ac, aso, pk, wr, e0, e00, e1, e2, e3, e4, e5, e6, e7, e8, e9, e10, e11, e12, e13, e14, e15, e16, e17⟩ := sh2.ex
  have give : ∀ (zs : List Str) (r : Td.Row), zs.length ≤ 5 → rowD r = .tuple (zs.map PyData.str) → (∀ dep, okR S dep r) → isIte r = false →
      ∀ H3, Keep st H H3 → StOk H3 st sc → (zs.map V.str).length ≤ sizeLine ∧ ∀ p, H3 p = none → Q (.ref p) (upd H3 p (.tup (zs.map V.str))) := fun zs r hz hr ho hi H3 k3 o3 =>
    ⟨Nat.le_of_lt (small1000 (by rw [List.length_map]; omega)), fun p hp => q _ r _ (k3.trans (Keep.new hp)) (o3.new hp) ho hi (by rw [hr]; exact Tn.new (TnAll.strs zs) hp)⟩
  -- kind == 0: put
  refine ⟨_, rfl, rfl, _, rfl, ?_⟩
  refine ite2 (fun _ => ?_) (fun _ => ?_)
  · refine ⟨_, rfl, pick_t (key := "words") rfl rfl e0 sh2.ne e1 e2 e3 sh2.w0 sh2.small.1 o2 fun wd hwd H3 k3 o3 => ?_⟩
    exact give ["put", sl, wd] (.put sl wd) (Nat.le_of_ble_eq_true rfl) rfl (fun dep => by unfold okR; exact ⟨hsl', hwd⟩) rfl H3 (k12.trans k3) o3
  -- kind == 1 and shape["kind"] == "derived": give
  refine ⟨fun σ' H' => H' = H2 ∧ σ' = [some (.ref st), some (.ref d), some (.int kd), some (.str sl), none] ∧ (kd = 1 → S.eff = true), ?_, ?_⟩
  · refine ⟨_, rfl, rfl, _, rfl, ?_⟩
    refine ite2 (fun c => ?_) (fun c => ?_)
    · refine ⟨_, rfl, d, _, rfl, dget_of e0 e13, rfl, _, rfl, ?_⟩
      cases hE : S.eff with
      | false =>
        refine if_true_of (by rw [if_neg Bool.false_ne_true]; decide +kernel) ?_
        exact ⟨_, rfl, give ["give", sl] (.give sl) (Nat.le_of_ble_eq_true rfl) rfl (fun dep => by unfold okR; exact ⟨hE, hsl'⟩) rfl H2 k12 o2⟩
      | true =>
        refine if_false_of (by rw [if_pos rfl]; decide +kernel) ?_
        exact ⟨rfl, rfl, fun _ => rfl⟩
    · refine iteF ⟨rfl, rfl, fun e => absurd ?_ c⟩
      rw [e]; decide +kernel
  rintro σ' H' ⟨rfl, rfl, hk1⟩
  -- kind == 1: say
  refine ⟨_, rfl, rfl, _, rfl, ?_⟩
  refine ite2 (fun c => ?_) (fun _ => ?_)
  · have hk : kd = 1 := by
      have := of_decide_eq_true c
      injection this
    exact ⟨_, rfl, give ["say", sl] (.say sl) (Nat.le_of_ble_eq_true rfl) rfl (fun dep => by unfold okR; exact ⟨hk1 hk, hsl'⟩) rfl H' k12 o2⟩
  -- kind == 2 and shape["writes"]
  refine ⟨fun σ' H'' => H'' = H' ∧ σ' = [some (.ref st), some (.ref d), some (.int kd), some (.str sl), none], ?_, ?_⟩
  · refine ⟨_, rfl, rfl, _, rfl, ?_⟩
    refine ite2 (fun _ => ?_) (fun _ => iteF ⟨rfl, rfl⟩)
    refine ⟨_, rfl, d, _, rfl, dget_of e0 e15, _, rfl, ?_⟩
    refine ite2 (fun hw => ?_) (fun _ => ⟨rfl, rfl⟩)
    refine pick_t (key := "sources") rfl rfl e0 sh2.ne e10 e11 e12 sh2.o0 sh2.small.2.2.2 o2 fun so hso H3 k3 o3 => ⟨_, rfl, ?_⟩
    exact give ["write", so, sl] (.wr so sl) (Nat.le_of_ble_eq_true rfl) rfl (fun dep => by unfold okR; exact ⟨e17 hw, hso, hsl'⟩) rfl H3 (k12.trans k3) o3
  rintro σ' H'' ⟨rfl, rfl⟩
  -- cell
  refine pick_l (key := "cells") rfl rfl e0 sh2.ne e7 e8 e9 sh2.c0 sh2.small.2.2.1 o2 fun ce hce H3 k3 o3 => ?_
  have sh3 := sh2.keep k3
  obtain ⟨kvs3, aw3, asl3, ac3, aso3, pk3, wr3, f0, f00, f1, f2, f3, f4, f5, f6, f7, f8, f9, f10, f11, f12, f13, f14, f15, f16, f17⟩ := sh3.ex
  refine ⟨fun σ' H4 => H4 = H3 ∧ σ' = [some (.ref st), some (.ref d), some (.int kd), some (.str sl), some (.str ce)], ?_, ?_⟩
  · refine ⟨_, rfl, rfl, _, rfl, ?_⟩
    refine ite2 (fun _ => ?_) (fun _ => iteF ⟨rfl, rfl⟩)
    refine ⟨_, rfl, d, _, rfl, dget_of f0 f14, _, rfl, ?_⟩
    refine ite2 (fun hp => ?_) (fun _ => ⟨rfl, rfl⟩)
    exact ⟨_, rfl, _, rfl, give ["peek", ce, sl] (.rd true ce sl) (Nat.le_of_ble_eq_true rfl) rfl (fun dep => by unfold okR; exact ⟨fun _ => f16 hp, hce, hsl'⟩) rfl H3 (k12.trans k3) o3⟩
  rintro σ' H4 ⟨rfl, rfl⟩
  exact ⟨_, rfl, _, rfl, give ["read", ce, sl] (.rd false ce sl) (Nat.le_of_ble_eq_true rfl) rfl (fun dep => by unfold okR; exact ⟨(fun h => nomatch h), hce, hsl'⟩) rfl H4 (k12.trans k3) o3⟩
end
end K01
namespace K01
open PySem PySem.Spec PyProof.Rows L2 Td
def spRows (K : PySem.W.Frag) (n : Nat) : Sp := fun vs H Q _ => ∃ (st sc d : Addr) (S : Sc) (slots : List Str) (dep : Nat) (room : Int),
  vs = [.ref st, .ref d, .int (dep : Nat), .int room] ∧ StOk H st sc ∧ ShapeAt K st H d S slots ∧ dep ≤ 4 ∧ 6 ≤ dep + n ∧ 0 ≤ room ∧ room ≤ 100 ∧
  ∀ (v : V) (rs : List Td.Row) (H' : Hp), Keep st H H' → StOk H' st sc → okRs S dep rs → (cnts rs : Int) ≤ room → Tn K H' v (.tuple (rowsD rs)) → Q v H'
theorem cnts_one (r : Td.Row) : cnts [r] = Td.cnt r := by simp [cnts]
theorem rowsD_one (r : Td.Row) : rowsD [r] = [rowD r] := by simp [rowsD]
theorem cnts_len : ∀ rs : List Td.Row, rs.length ≤ cnts rs
  | [] => Nat.zero_le _
  | r :: rs => by
    have := cnts_len rs
    have := cnt_pos r
    simp only [cnts, List.length_cons]
    omega
section
variable {P : Program} {w : World} {K : PySem.W.Frag} {mg : Str → Option Value} {base : Heap}
theorem ok_rows1 (T : Tops w K mg) {n : Nat} (hn5 : 5 ≤ n)
    (G__law_draw : FnOk P w K mg base CX0 1 T.a__law_draw T.d__law_draw ["_law_state_here", "_law_many_here"] spDraw)
    (G__law_row : FnOk P w K mg base CX0 2 T.a__law_row T.d__law_row ["_law_state_here", "_law_shape"] (spRow K))
    (G__law_many : FnOk P w K mg base CX0 5 T.a__law_many T.d__law_many ["_law_rows_here"] (spMany K 5))
    (G__law_rows : FnOk P w K mg base CX0 n T.a__law_rows T.d__law_rows ["_law_state_here", "_law_shape", "_law_depth", "_law_room"] (spRows K (n - 5))) :
    FnOk P w K mg base CX0 (n + 1) T.a__law_rows T.d__law_rows ["_law_state_here", "_law_shape", "_law_depth", "_law_room"] (spRows K (n - 5 + 1)) := by
  refine T.F__law_rows.ok sc_law_rows (fun vs H Q E h => ?_) (fun cdv A outer s H vs Q E hr h => ?_)
  · obtain ⟨st, sc, d, S, slots, dep, room, rfl, _⟩ := h
    rfl
  obtain ⟨st, sc, d, S, slots, dep, room, rfl, ok, sh, hdep, hn, hr0, hr1, q⟩ := h
  refine ⟨_, (pss_cons (ps_set (i := 4) sc_law_rows.nd rfl (Or.inl rfl) (pe_lst pa_nil))
    (pss_cons (ps_set (i := 5) sc_law_rows.nd rfl (Or.inl rfl) (pv 3))
    (pss_cons (ps_for PassesOwn.never rfl (pi_range1 rfl T.z_range (pa_cons (pe_op op_add pe_int (pe_call G__law_draw (hr.mono (by omega)) rfl T.m__law_draw T.F__law_draw.kp T.b__law_draw .nil pass0 (pa_cons (pv 0) (pa_cons pe_int pa_nil)))) pa_nil)) (pg_name (i := 6) sc_law_rows.nd rfl (Or.inl rfl)) (pss_one (ps_ifC (PW.pt (pw_and (pt_cmpR op_ge (pv 5) pe_int (nomark _)) (pw_and (pt_cmpR op_lt (pv 2) pe_int (nomark _)) (pw_and1 (pt_cmpR op_eq (pe_call G__law_draw (hr.mono (by omega)) rfl T.m__law_draw T.F__law_draw.kp T.b__law_draw .nil pass0 (pa_cons (pv 0) (pa_cons pe_int pa_nil))) pe_int (nomark _)))))) (pss_cons (ps_set (i := 7) sc_law_rows.nd rfl (Or.inl rfl) (pe_ix ix_list (pe_dget (hu_of hr) (pv 1) pe_str (fun _ _ => rfl)) (pe_call G__law_draw (hr.mono (by omega)) rfl T.m__law_draw T.F__law_draw.kp T.b__law_draw .nil pass0 (pa_cons (pv 0) (pa_cons (pe_callB call_len rfl T.z_len PySem.boot_len (pa_cons (pe_dget (hu_of hr) (pv 1) pe_str (fun _ _ => rfl)) pa_nil)) pa_nil))) (fun _ _ => rfl)))
    (pss_cons (ps_set (i := 8) sc_law_rows.nd rfl (Or.inl rfl) (pe_ix ix_list (pe_dget (hu_of hr) (pv 1) pe_str (fun _ _ => rfl)) (pe_call G__law_draw (hr.mono (by omega)) rfl T.m__law_draw T.F__law_draw.kp T.b__law_draw .nil pass0 (pa_cons (pv 0) (pa_cons (pe_callB call_len rfl T.z_len PySem.boot_len (pa_cons (pe_dget (hu_of hr) (pv 1) pe_str (fun _ _ => rfl)) pa_nil)) pa_nil))) (fun _ _ => rfl)))
    (pss_cons (ps_set (i := 9) sc_law_rows.nd rfl (Or.inl rfl) (pe_ix ix_tup (pe_dget (hu_of hr) (pv 1) pe_str (fun _ _ => rfl)) (pe_call G__law_draw (hr.mono (by omega)) rfl T.m__law_draw T.F__law_draw.kp T.b__law_draw .nil pass0 (pa_cons (pv 0) (pa_cons (pe_callB call_len rfl T.z_len PySem.boot_len (pa_cons (pe_dget (hu_of hr) (pv 1) pe_str (fun _ _ => rfl)) pa_nil)) pa_nil))) (fun _ _ => rfl)))
    (pss_cons (ps_expr (pe_bm PySem.F.plainAttrs_list PySem.F.slot_list_append PySem.F.type_list_append mt_append (pv 4) (pa_cons (pe_tup (pa_cons pe_str (pa_cons (pv 8) (pa_cons (pv 7) pa_nil)))) pa_nil)))
    (pss_cons (ps_set (i := 10) sc_law_rows.nd rfl (Or.inl rfl) (pe_call G__law_rows (hr.mono (by omega)) rfl T.m__law_rows T.F__law_rows.kp T.b__law_rows .nil pass0 (pa_cons (pv 0) (pa_cons (pv 1) (pa_cons (pe_op op_add (pv 2) pe_int) (pa_cons (pe_op op_fdivW (pe_op op_sub (pv 5) pe_int) pe_int) pa_nil))))))
    (pss_cons (ps_set (i := 11) sc_law_rows.nd rfl (Or.inl rfl) (pe_call G__law_rows (hr.mono (by omega)) rfl T.m__law_rows T.F__law_rows.kp T.b__law_rows .nil pass0 (pa_cons (pv 0) (pa_cons (pv 1) (pa_cons (pe_op op_add (pv 2) pe_int) (pa_cons (pe_op op_fdivW (pe_op op_sub (pv 5) pe_int) pe_int) pa_nil))))))
    (pss_cons (ps_expr (pe_bm PySem.F.plainAttrs_list PySem.F.slot_list_append PySem.F.type_list_append mt_append (pv 4) (pa_cons (pe_tup (pa_cons pe_str (pa_cons (pv 7) (pa_cons (pv 9) (pa_cons (pv 10) (pa_cons (pv 11) pa_nil)))))) pa_nil)))
    (pss_one (ps_set (i := 5) sc_law_rows.nd rfl (Or.inl rfl) (pe_op op_sub (pe_op op_sub (pe_op op_sub (pv 5) pe_int) (pe_call G__law_many (hr.mono (by omega)) rfl T.m__law_many T.F__law_many.kp T.b__law_many .nil pass0 (pa_cons (pv 10) pa_nil))) (pe_call G__law_many (hr.mono (by omega)) rfl T.m__law_many T.F__law_many.kp T.b__law_many .nil pass0 (pa_cons (pv 11) pa_nil)))))))))))) (pss_one (ps_if (pt_cmpR op_ge (pv 5) pe_int (nomark _)) (pss_cons (ps_expr (pe_bm PySem.F.plainAttrs_list PySem.F.slot_list_append PySem.F.type_list_append mt_append (pv 4) (pa_cons (pe_call G__law_row (hr.mono (by omega)) rfl T.m__law_row T.F__law_row.kp T.b__law_row .nil pass0 (pa_cons (pv 0) (pa_cons (pv 1) pa_nil))) pa_nil)))
    (pss_one (ps_set (i := 5) sc_law_rows.nd rfl (Or.inl rfl) (pe_op op_sub (pv 5) pe_int)))) pss_nil)))))
    (pss_one (ps_ret (pe_callTy call_tuple_of rfl T.z_tuple (by decide +kernel) (pa_cons (pv 4) pa_nil))))))), ?_⟩
  refine ⟨Nat.zero_le _, fun p hp => ?_⟩
  obtain ⟨nps, npc⟩ := ok.ne hp
  have ok0 : StOk (upd H p (.lst [])) st sc := ok.new hp
  have kp0 : Keep st H (upd H p (.lst [])) := Keep.new hp
  refine ⟨_, rfl, _, rfl, st, sc, 4, rfl, by decide, by decide, ok0, fun tn H1 t0 t1 k1 o1 _ => ⟨_, _, rfl, rfl, _, rfl, by omega, by omega, ?_⟩⟩
  have kH1 : Keep st H H1 := kp0.trans k1
  have hpH1 : H1 p = some (.lst []) := k1 _ _ nps upd_same
  refine for_range (lo := 0) (n := (1 + tn).toNat) (fun i σ H' => ∃ (left : Int) (v6 v7 v8 v9 v10 v11 : Option V) (xs : List V) (rs : List Td.Row),
    σ = [some (.ref st), some (.ref d), some (.int (dep : Nat)), some (.int room), some (.ref p), some (.int left), v6, v7, v8, v9, v10, v11] ∧
    Keep st H H' ∧ StOk H' st sc ∧ H' p = some (.lst xs) ∧ TnAll K H' xs (rowsD rs) ∧ okRs S dep rs ∧ (cnts rs : Int) + left ≤ room ∧ 0 ≤ left)
    ⟨room, none, none, none, none, none, none, [], [], rfl, kH1, o1, hpH1, by unfold rowsD; exact .nil, by unfold okRs; trivial, by simp [cnts], hr0⟩ ?_ ?_
  · rintro i σ H2 hi ⟨left, v6, v7, v8, v9, v10, v11, xs, rs, rfl, kH, oH, hpH, hT, hok, hcnt, hl0⟩
    have hlen : ∀ ys : List V, TnAll K H2 ys (rowsD rs) → ys.length ≤ 100 := fun ys h => by
      have e := h.length
      rw [rowsD_length] at e
      have := cnts_len rs
      omega
    -- append a row's tuple
    have app : ∀ {H3 : Hp} {v : V} {r : Td.Row} {ys : List V} {ts : List Td.Row}, Keep st H H3 → StOk H3 st sc → H3 p = some (.lst ys) → TnAll K H3 ys (rowsD ts) → okRs S dep ts → Tn K H3 v (rowD r) → okR S dep r →
        Keep st H (upd H3 p (.lst (ys ++ [v]))) ∧ StOk (upd H3 p (.lst (ys ++ [v]))) st sc ∧ TnAll K (upd H3 p (.lst (ys ++ [v]))) (ys ++ [v]) (rowsD (ts ++ [r])) ∧ okRs S dep (ts ++ [r]) ∧ cnts (ts ++ [r]) = cnts ts + Td.cnt r ∧ TK H3 (upd H3 p (.lst (ys ++ [v]))) := by
      intro H3 v r ys ts k3 o3 hp3 t3 okt tv okr
      have tk : TK H3 (upd H3 p (.lst (ys ++ [v]))) := TK.upd (by rw [hp3]; trivial)
      refine ⟨k3.own (ok.ne hp |>.1 |> fun _ => hp), o3.other nps npc, ?_, okRs_append okt (okRs_one okr), ?_, tk⟩
      · rw [rowsD_append, rowsD_one]
        exact TnAll.append (TnAll.keep tk t3) (TnAll.one (Tn.keep tk tv))
      · rw [cnts_append, cnts_one]
    have chg : ∀ {H3 : Hp}, StOk H3 st sc → Chg (H3 st) := fun o => by obtain ⟨L, hL⟩ := o.at; rw [hL]; trivial
    refine ⟨fun H3 => Keep st H2 H3 ∧ StOk H3 st sc, ?_, ?_⟩
    · refine ⟨_, rfl, _, _, rfl, rfl, _, rfl, ?_⟩
      refine ite2 (fun c1 => ?_) (fun _ => iteF ⟨Keep.refl _ _, oH⟩)
      have c1' : 2 ≤ left := of_decide_eq_true c1
      refine ⟨_, rfl, _, _, rfl, rfl, _, rfl, ?_⟩
      refine ite2 (fun c2 => ?_) (fun _ => iteF ⟨Keep.refl _ _, oH⟩)
      have c2' : ((dep : Nat) : Int) < 4 := of_decide_eq_true c2
      refine ⟨_, rfl, st, sc, 3, rfl, by decide, by decide, oH, fun x3 H3 x30 x31 k3 o3 _ => ⟨rfl, _, rfl, ?_⟩⟩
      refine ite2 (fun _ => ?_) (fun _ => ⟨k3, o3⟩)
      have sh3 := sh.keep (kH.trans k3)
      obtain ⟨kvs, aw, asl, ac, aso, pk, wr, e0, e00, e1, e2, e3, e4, e5, e6, e7, e8, e9, e10, e11, e12, e13, e14, e15, e16, e17⟩ := sh3.ex
      refine pick_l (key := "slots") rfl rfl e0 sh3.ne e4 e5 e6 sh3.s0 sh3.small.2.1 o3 fun sl hsl H4 k4 o4 => ?_
      have hsl' := sh3.good sl hsl
      have sh4 := sh3.keep k4
      obtain ⟨kvs, aw, asl, ac, aso, pk, wr, e0, e00, e1, e2, e3, e4, e5, e6, e7, e8, e9, e10, e11, e12, e13, e14, e15, e16, e17⟩ := sh4.ex
      refine pick_l (key := "cells") rfl rfl e0 sh4.ne e7 e8 e9 sh4.c0 sh4.small.2.2.1 o4 fun ce hce H5 k5 o5 => ?_
      have sh5 := sh4.keep k5
      obtain ⟨kvs, aw, asl, ac, aso, pk, wr, e0, e00, e1, e2, e3, e4, e5, e6, e7, e8, e9, e10, e11, e12, e13, e14, e15, e16, e17⟩ := sh5.ex
      refine pick_t (key := "words") rfl rfl e0 sh5.ne e1 e2 e3 sh5.w0 sh5.small.1 o5 fun wd hwd H6 k6 o6 => ?_
      have k26 : Keep st H2 H6 := k3.trans (k4.trans (k5.trans k6))
      have hp6 := k26 _ _ nps hpH
      have cst : Chg (H2 st) := by obtain ⟨L, hL⟩ := oH.at; rw [hL]; trivial
      have tk26 : TK H2 H6 := TK.of_keep k26 cst
      have t6 := TnAll.keep tk26 hT
      have hx100 := hlen xs hT
      -- append ("read", cell, slot)
      refine ⟨_, rfl, .inl ⟨rfl, _, SqL.of hp6⟩, _, rfl, _, rfl, by show 3 ≤ sizeLine; decide, fun t1 ht1 => ?_⟩
      have npt : p ≠ t1 := fun e => by rw [e, ht1] at hp6; cases hp6
      have hp7 : upd H6 t1 (.tup [.str "read", .str ce, .str sl]) p = some (.lst xs) := by rw [upd_ne npt]; exact hp6
      refine ⟨p, _, _, rfl, rfl, hp7, small1000 (by omega), ?_⟩
      have k7 : Keep st H (upd H6 t1 (.tup [.str "read", .str ce, .str sl])) := (kH.trans k26).trans (Keep.new ht1)
      obtain ⟨k8, o8, t8, ok8, c8, tk8⟩ := app (r := .rd false ce sl) k7 (o6.new ht1) hp7
        (TnAll.keep (TK.of_same (Same.new ht1 _)) t6) hok (by unfold rowD; exact Tn.new (TnAll.strs ["read", ce, sl]) ht1) (by unfold okR; exact ⟨(fun h => nomatch h), hce, hsl'⟩)
      have h8p : upd (upd H6 t1 (.tup [.str "read", .str ce, .str sl])) p (.lst (xs ++ [.ref t1])) p = some (.lst (xs ++ [.ref t1])) := upd_same
      show tSeq _ _ _ _ (upd (upd H6 t1 (.tup [.str "read", .str ce, .str sl])) p (.lst (xs ++ [.ref t1])))
      generalize upd (upd H6 t1 (.tup [.str "read", .str ce, .str sl])) p (.lst (xs ++ [.ref t1])) = H8 at k8 o8 t8 h8p
      -- yes, no
      refine ⟨_, rfl, _, rfl, _, rfl, _, _, rfl, rfl, _, rfl, _, _, rfl, rfl, _, _, rfl, rfl, wide_div (b := 64) (by decide) (by decide) (by decide) (by decide), ?_⟩
      refine ⟨st, sc, d, S, slots, dep + 1, _, rfl, o8, sh.keep k8, by omega, by omega, by omega, by omega, fun vy y H9 k9 o9 oky cy ty => ?_⟩
      refine ⟨_, rfl, _, rfl, _, rfl, _, _, rfl, rfl, _, rfl, _, _, rfl, rfl, _, _, rfl, rfl, wide_div (b := 64) (by decide) (by decide) (by decide) (by decide), ?_⟩
      refine ⟨st, sc, d, S, slots, dep + 1, _, rfl, o9, sh.keep (k8.trans k9), by omega, by omega, by omega, by omega, fun vn y' H10 k10 o10 okn cn tn' => ?_⟩
      have h10p := k10 _ _ nps (k9 _ _ nps h8p)
      have tk810 : TK H8 H10 := (TK.of_keep k9 (chg o8)).trans (TK.of_keep k10 (chg o9))
      have ty10 := Tn.keep (TK.of_keep k10 (chg o9)) ty
      -- append ("if", slot, word, yes, no)
      refine ⟨_, rfl, .inl ⟨rfl, _, SqL.of h10p⟩, _, rfl, _, rfl, _, rfl, _, rfl, by show 5 ≤ sizeLine; decide, fun t2 ht2 => ?_⟩
      have npt2 : p ≠ t2 := fun e => by rw [e, ht2] at h10p; cases h10p
      have tup2 : Tn K (upd H10 t2 (.tup [.str "if", .str sl, .str wd, vy, vn])) (.ref t2) (rowD (.ite sl wd y y')) := by
        unfold rowD
        exact Tn.new (.cons (.str _) (.cons (.str _) (.cons (.str _) (.cons ty10 (.cons tn' .nil))))) ht2
      have h11p : upd H10 t2 (.tup [.str "if", .str sl, .str wd, vy, vn]) p = some (.lst (xs ++ [.ref t1])) := by rw [upd_ne npt2]; exact h10p
      refine ⟨p, _, _, rfl, rfl, h11p, small1000 (by rw [List.length_append]; show xs.length + 1 ≤ 1000; omega), ?_⟩
      have k11 : Keep st H (upd H10 t2 (.tup [.str "if", .str sl, .str wd, vy, vn])) := ((k8.trans k9).trans k10).trans (Keep.new ht2)
      have tk11 : TK H10 (upd H10 t2 (.tup [.str "if", .str sl, .str wd, vy, vn])) := TK.of_same (Same.new ht2 _)
      obtain ⟨k12, o12, t12, ok12, c12, tk12⟩ := app k11 (o10.new ht2) h11p (TnAll.keep (tk810.trans tk11) t8) ok8 tup2 (by unfold okR; exact ⟨by omega, hsl', hwd, oky, okn⟩)
      have ec : Td.cnt (.ite sl wd y y') = 1 + cnts y + cnts y' := by unfold Td.cnt; rfl
      have er : Td.cnt (.rd false ce sl) = 1 := rfl
      have ty12 := Tn.keep (tk11.trans tk12) ty10
      have tn12 := Tn.keep (tk11.trans tk12) tn'
      refine ⟨_, rfl, _, _, rfl, rfl, _, rfl, vy, y, S, dep + 1, rfl, ty12.dp, oky, by omega, by omega, _, _, rfl, rfl, _, rfl, vn, y', S, dep + 1, rfl, tn12.dp, okn, by omega, by omega, _, _, rfl, rfl, ?_⟩
      exact ⟨_, _, _, _, _, _, _, _, _, rfl, k12, o12, upd_same, t12, ok12, by rw [c12, c8, ec, er]; omega, by omega⟩
    · rintro H3 ⟨k3, o3⟩
      refine ⟨_, rfl, _, _, rfl, rfl, _, rfl, ?_⟩
      refine ite2 (fun c1 => ?_) (fun _ => ?_)
      · have c1' : 1 ≤ left := of_decide_eq_true c1
        have hp3 := k3 _ _ nps hpH
        have cst : Chg (H2 st) := by obtain ⟨L, hL⟩ := oH.at; rw [hL]; trivial
        have t3 := TnAll.keep (TK.of_keep k3 cst) hT
        have hx100 := hlen xs hT
        refine ⟨_, rfl, .inl ⟨rfl, _, SqL.of hp3⟩, _, rfl, _, rfl, st, sc, d, S, slots, rfl, o3, sh.keep (kH.trans k3), fun v r H4 k4 o4 okr hir tv => ?_⟩
        have hp4 := k4 _ _ nps hp3
        refine ⟨p, _, _, rfl, rfl, hp4, small1000 (by omega), ?_⟩
        refine ⟨_, rfl, _, _, rfl, rfl, ?_⟩
        have cst3 : Chg (H3 st) := by obtain ⟨L, hL⟩ := o3.at; rw [hL]; trivial
        obtain ⟨k5, o5, t5, ok5, c5, tk5⟩ := app ((kH.trans k3).trans k4) o4 hp4 (TnAll.keep (TK.of_keep k4 cst3) t3) hok tv (okr dep)
        have e1 := cnt_flat hir
        exact ⟨_, _, v7, v8, v9, v10, v11, _, _, rfl, k5, o5, upd_same, t5, ok5, by rw [c5, e1]; omega, by omega⟩
      · exact ⟨left, _, v7, v8, v9, v10, v11, xs, rs, rfl, kH.trans k3, o3, k3 _ _ nps hpH, TnAll.keep (TK.of_keep k3 (chg oH)) hT, hok, hcnt, hl0⟩
  · rintro σ H2 ⟨left, v6, v7, v8, v9, v10, v11, xs, rs, rfl, kH, oH, hpH, hT, hok, hcnt, hl0⟩
    refine ⟨_, rfl, p, _, rfl, .inl ⟨SqL.of hpH, fun t ht => ?_⟩⟩
    exact q _ rs _ (kH.trans (Keep.new ht)) (oH.new ht) hok (by omega) (Tn.new hT ht)
theorem ok_rows (T : Tops w K mg)
    (G1 : FnOk P w K mg base CX0 1 T.a__law_draw T.d__law_draw ["_law_state_here", "_law_many_here"] spDraw)
    (G2 : FnOk P w K mg base CX0 2 T.a__law_row T.d__law_row ["_law_state_here", "_law_shape"] (spRow K))
    (G3 : FnOk P w K mg base CX0 5 T.a__law_many T.d__law_many ["_law_rows_here"] (spMany K 5)) :
    ∀ k, FnOk P w K mg base CX0 (k + 5) T.a__law_rows T.d__law_rows ["_law_state_here", "_law_shape", "_law_depth", "_law_room"] (spRows K k)
  | 0 => by
    have no : ∀ vs H Q E, ¬ spRows K 0 vs H Q E := fun vs H Q E h => by
      obtain ⟨_, _, _, _, _, dep, _, _, _, _, h1, h2, _⟩ := h
      omega
    exact ⟨fun vs H Q E h => absurd h (no vs H Q E), fun A outer s H args us vs Q E _ _ _ _ h => absurd h (no vs H Q E)⟩
  | k + 1 => ok_rows1 T (n := k + 5) (by omega) G1 G2 G3 (ok_rows T G1 G2 G3 k)
end
end K01
namespace K01
open PySem PySem.Spec PyProof.Rows L2 Td
def spParts (K : PySem.W.Frag) : Sp := fun vs H Q _ => ∃ (st sc z : Addr) (a0 a1 a2 a3 a4 : Int) (pk wr : Bool),
  vs = [.ref st, .ref z, .bl pk, .bl wr] ∧ StOk H st sc ∧ SqL K H z [.int a0, .int a1, .int a2, .int a3, .int a4] ∧ z ≠ st ∧
  1 ≤ a0 ∧ a0 ≤ 3 ∧ 1 ≤ a1 ∧ a1 ≤ 4 ∧ 0 ≤ a2 ∧ a2 ≤ 6 ∧ 0 ≤ a3 ∧ a3 ≤ 4 ∧ 0 ≤ a4 ∧ a4 ≤ 15 ∧
  ∀ (v : V) (pp : PP) (H' : Hp), Keep st H H' → StOk H' st sc → pp.Ok (a4.toNat + 1) → Tn K H' v pp.data → Q v H'
/-- what stands while the bodies are drawn -/
structure PSt (K : PySem.W.Frag) (H0 H : Hp) (st sc aw pN p2 p4 pd pD : Addr) (ws srcs slots ns : List Str) (kd pk wr : V) (rd : List Str) (xs : List V) (ds : List (Str × List Td.Row)) : Prop where
  kp : Keep st H0 H
  ok : StOk H st sc
  wA : SqT K H aw (ws.map V.str)
  sA : SqT K H p4 (srcs.map V.str)
  nA : H pN = some (.lst (ns.map V.str))
  lA : H p2 = some (.lst (slots.map V.str))
  dA : ∃ pc, H pd = some (.dK (shp7 kd (.ref pc) (.ref p4) (.ref p2) (.ref aw) pk wr)) ∧ H pc = some (.lst (rd.map V.str)) ∧ pc ≠ st ∧ pc ≠ pD
  xA : H pD = some (.lst xs)
  tA : TnAll K H xs (ds.map Td.pairD)
structure PNe (H0 : Hp) (st sc aw pN p2 p4 pd pD : Addr) : Prop where
  naw : aw ≠ st
  npN : pN ≠ st
  np2 : p2 ≠ st
  np4 : p4 ≠ st
  npd : pd ≠ st
  npD : pD ≠ st
  ndc : pd ≠ sc
  nDc : pD ≠ sc
  d0 : H0 pd = none
  D0 : H0 pD = none
  nN : pN ≠ pD
  n2 : p2 ≠ pD
section
variable {K : PySem.W.Frag} {H0 H H' : Hp} {st sc aw pN p2 p4 pd pD : Addr} {ws srcs slots ns : List Str} {kd pk wr : V} {rd : List Str} {xs : List V} {ds : List (Str × List Td.Row)}
theorem StOk.chg (h : StOk H st sc) : Chg (H st) := by
  obtain ⟨L, hL⟩ := h.at
  rw [hL]; trivial
theorem PSt.keep (h : PSt K H0 H st sc aw pN p2 p4 pd pD ws srcs slots ns kd pk wr rd xs ds) (n : PNe H0 st sc aw pN p2 p4 pd pD) (k : Keep st H H') (o : StOk H' st sc) :
    PSt K H0 H' st sc aw pN p2 p4 pd pD ws srcs slots ns kd pk wr rd xs ds := by
  obtain ⟨pc, d1, d2, d3, d4⟩ := h.dA
  exact ⟨h.kp.trans k, o, SqT.keep k n.naw h.wA, SqT.keep k n.np4 h.sA, k _ _ n.npN h.nA, k _ _ n.np2 h.lA, ⟨pc, k _ _ n.npd d1, k _ _ d3 d2, d3, d4⟩, k _ _ n.npD h.xA,
    TnAll.keep (TK.of_keep k h.ok.chg) h.tA⟩
theorem PSt.new {p : Addr} {o : HO} (h : PSt K H0 H st sc aw pN p2 p4 pd pD ws srcs slots ns kd pk wr rd xs ds) (n : PNe H0 st sc aw pN p2 p4 pd pD) (hp : H p = none) :
    PSt K H0 (upd H p o) st sc aw pN p2 p4 pd pD ws srcs slots ns kd pk wr rd xs ds := h.keep n (Keep.new hp) (h.ok.new hp)
theorem PSt.shape {eff p r : Bool} (h : PSt K H0 H st sc aw pN p2 p4 pd pD ws srcs slots ns (.str (if eff then "effects" else "derived")) (.bl p) (.bl r) rd xs ds) (n : PNe H0 st sc aw pN p2 p4 pd pD)
    (hp : p = true → eff = true) (hr : r = true → eff = true) (w0 : ws ≠ []) (s0 : slots ≠ []) (c0 : rd ≠ []) (o0 : srcs ≠ []) (sm : ws.length ≤ 100 ∧ slots.length ≤ 100 ∧ rd.length ≤ 100 ∧ srcs.length ≤ 100) (g : ∀ z ∈ slots, isNm z = true) :
    ShapeAt K st H pd ⟨eff, ws, srcs, rd⟩ slots := by
  obtain ⟨pc, d1, d2, d3, d4⟩ := h.dA
  exact ⟨⟨_, aw, p2, pc, p4, p, r, d1, by show 7 ≤ 100; decide, get_words .., h.wA, n.naw, get_slots .., SqL.of h.lA, n.np2, get_cells .., SqL.of d2, d3, get_sources .., h.sA, n.np4, get_kind .., get_peeks .., get_writes .., hp, hr⟩, n.npd, w0, s0, c0, o0, sm, g⟩
theorem PSt.app {v : V} {q : Str × List Td.Row} (h : PSt K H0 H st sc aw pN p2 p4 pd pD ws srcs slots ns kd pk wr rd xs ds) (n : PNe H0 st sc aw pN p2 p4 pd pD) (tv : Tn K H v (Td.pairD q)) :
    PSt K H0 (upd H pD (.lst (xs ++ [v]))) st sc aw pN p2 p4 pd pD ws srcs slots ns kd pk wr rd (xs ++ [v]) (ds ++ [q]) := by
  obtain ⟨pc, d1, d2, d3, d4⟩ := h.dA
  have tk : TK H (upd H pD (.lst (xs ++ [v]))) := TK.upd (by rw [h.xA]; trivial)
  have ne1 : pd ≠ pD := ne_of d1 h.xA (by intro e; cases e)
  refine ⟨h.kp.own n.D0, h.ok.other n.npD n.nDc, SqT.tk tk h.wA, SqT.tk tk h.sA, by rw [upd_ne n.nN]; exact h.nA, by rw [upd_ne n.n2]; exact h.lA,
    ⟨pc, by rw [upd_ne ne1]; exact d1, by rw [upd_ne d4]; exact d2, d3, d4⟩, upd_same, ?_⟩
  rw [List.map_append]
  exact TnAll.append (TnAll.keep tk h.tA) (TnAll.one (Tn.keep tk tv))
/-- the dict is changed -/
theorem PSt.put {kd' pk' wr' : V} {rd' : List Str} {pc' : Addr} (h : PSt K H0 H st sc aw pN p2 p4 pd pD ws srcs slots ns kd pk wr rd xs ds) (n : PNe H0 st sc aw pN p2 p4 pd pD)
    (hc : H pc' = some (.lst (rd'.map V.str))) (h1 : pc' ≠ st) (h2 : pc' ≠ pD) :
    PSt K H0 (upd H pd (.dK (shp7 kd' (.ref pc') (.ref p4) (.ref p2) (.ref aw) pk' wr'))) st sc aw pN p2 p4 pd pD ws srcs slots ns kd' pk' wr' rd' xs ds := by
  obtain ⟨pc, d1, d2, d3, d4⟩ := h.dA
  have tk : TK H (upd H pd (.dK (shp7 kd' (.ref pc') (.ref p4) (.ref p2) (.ref aw) pk' wr'))) := TK.upd (by rw [d1]; trivial)
  exact ⟨h.kp.own n.d0, h.ok.other n.npd n.ndc, SqT.tk tk h.wA, SqT.tk tk h.sA, by rw [upd_ne (ne_of h.nA d1 (by intro e; cases e))]; exact h.nA, by rw [upd_ne (ne_of h.lA d1 (by intro e; cases e))]; exact h.lA,
    ⟨pc', upd_same, by rw [upd_ne (ne_of hc d1 (by intro e; cases e))]; exact hc, h1, h2⟩, by rw [upd_ne (ne_of h.xA d1 (by intro e; cases e))]; exact h.xA, TnAll.keep tk h.tA⟩
end
section
variable {P : Program} {w : World} {K : PySem.W.Frag} {mg : Str → Option Value} {base : Heap}
theorem ok_parts (T : Tops w K mg)
    (G__law_draw : FnOk P w K mg base CX0 1 T.a__law_draw T.d__law_draw ["_law_state_here", "_law_many_here"] spDraw)
    (G__law_names : FnOk P w K mg base CX0 2 T.a__law_names T.d__law_names ["_law_state_here", "_law_many_here"] spNames)
    (G__law_rows : FnOk P w K mg base CX0 10 T.a__law_rows T.d__law_rows ["_law_state_here", "_law_shape", "_law_depth", "_law_room"] (spRows K 5)) :
    FnOk P w K mg base CX0 11 T.a__law_parts T.d__law_parts ["_law_state_here", "_law_sizes", "_law_peeks", "_law_writes"] (spParts K) := by
  refine T.F__law_parts.ok sc_law_parts (fun vs H Q E h => ?_) (fun cdv A outer s H vs Q E hr h => ?_)
  · obtain ⟨st, sc, z, a0, a1, a2, a3, a4, pk, wr, rfl, _⟩ := h
    rfl
  obtain ⟨st, sc, z, a0, a1, a2, a3, a4, pk, wr, rfl, ok, hz, nz, a00, a01, a10, a11, a20, a21, a30, a31, a40, a41, q⟩ := h
  refine ⟨_, (pss_cons (ps_set (i := 4) sc_law_parts.nd rfl (Or.inl rfl) (pe_op op_add pe_int (pe_call G__law_draw (hr.mono (by omega)) rfl T.m__law_draw T.F__law_draw.kp T.b__law_draw .nil pass0 (pa_cons (pv 0) (pa_cons (pe_ix ix_list (pv 1) pe_int (fun _ _ => rfl)) pa_nil)))))
    (pss_cons (ps_set (i := 5) sc_law_parts.nd rfl (Or.inl rfl) (pe_op op_add pe_int (pe_call G__law_draw (hr.mono (by omega)) rfl T.m__law_draw T.F__law_draw.kp T.b__law_draw .nil pass0 (pa_cons (pv 0) (pa_cons (pe_ix ix_list (pv 1) pe_int (fun _ _ => rfl)) pa_nil)))))
    (pss_cons (ps_set (i := 6) sc_law_parts.nd rfl (Or.inl rfl) (pe_callB (call_max2 rfl) rfl T.z_max (by decide +kernel) (pa_cons (pe_call G__law_draw (hr.mono (by omega)) rfl T.m__law_draw T.F__law_draw.kp T.b__law_draw .nil pass0 (pa_cons (pv 0) (pa_cons (pe_op op_add (pe_ix ix_list (pv 1) pe_int (fun _ _ => rfl)) pe_int) pa_nil))) (pa_cons (pe_call G__law_draw (hr.mono (by omega)) rfl T.m__law_draw T.F__law_draw.kp T.b__law_draw .nil pass0 (pa_cons (pv 0) (pa_cons (pe_op op_add (pe_ix ix_list (pv 1) pe_int (fun _ _ => rfl)) pe_int) pa_nil))) pa_nil))))
    (pss_cons (ps_set (i := 7) sc_law_parts.nd rfl (Or.inl rfl) (pe_callB (call_max2 rfl) rfl T.z_max (by decide +kernel) (pa_cons (pe_call G__law_draw (hr.mono (by omega)) rfl T.m__law_draw T.F__law_draw.kp T.b__law_draw .nil pass0 (pa_cons (pv 0) (pa_cons (pe_op op_add (pe_ix ix_list (pv 1) pe_int (fun _ _ => rfl)) pe_int) pa_nil))) (pa_cons (pe_call G__law_draw (hr.mono (by omega)) rfl T.m__law_draw T.F__law_draw.kp T.b__law_draw .nil pass0 (pa_cons (pv 0) (pa_cons (pe_op op_add (pe_ix ix_list (pv 1) pe_int (fun _ _ => rfl)) pe_int) pa_nil))) pa_nil))))
    (pss_cons (ps_set (i := 8) sc_law_parts.nd rfl (Or.inl rfl) (pe_callTy call_tuple_of rfl T.z_tuple (by decide +kernel) (pa_cons (pe_call G__law_names (hr.mono (by omega)) rfl T.m__law_names T.F__law_names.kp T.b__law_names .nil pass0 (pa_cons (pv 0) (pa_cons (pv 4) pa_nil))) pa_nil)))
    (pss_cons (ps_set (i := 9) sc_law_parts.nd rfl (Or.inl rfl) (pe_call G__law_names (hr.mono (by omega)) rfl T.m__law_names T.F__law_names.kp T.b__law_names .nil pass0 (pa_cons (pv 0) (pa_cons (pe_op op_add (pe_op op_add (pv 5) (pv 6)) (pv 7)) pa_nil))))
    (C8.pss_cut (ps_if (PW.pt (pw_and (pt_cmpR op_eq (pe_call G__law_draw (hr.mono (by omega)) rfl T.m__law_draw T.F__law_draw.kp T.b__law_draw .nil pass0 (pa_cons (pv 0) (pa_cons pe_int pa_nil))) pe_int (nomark _)) (pw_and1 (pt_cmpR op_notIn_seq (pe_ix ix_list (pv 9) pe_int (fun _ _ => rfl)) (pv 8) (by rfl))))) (pss_one (ps_set (i := 8) sc_law_parts.nd rfl (Or.inl rfl) (pe_op op_catA (pe_slice sl_tupA (pv 8) (po_some pe_int) po_none) (pe_tup (pa_cons (pe_ix ix_list (pv 9) pe_int (fun _ _ => rfl)) pa_nil))))) pss_nil)
    (pss_cons (ps_set (i := 10) sc_law_parts.nd rfl (Or.inl rfl) (pe_op op_cat (pe_call G__law_names (hr.mono (by omega)) rfl T.m__law_names T.F__law_names.kp T.b__law_names .nil pass0 (pa_cons (pv 0) (pa_cons pe_int pa_nil))) (pe_lst (pa_cons (pe_ix ix_list (pv 9) pe_int (fun _ _ => rfl)) pa_nil))))
    (pss_cons (ps_set (i := 11) sc_law_parts.nd rfl (Or.inl rfl) (pe_callTy call_tuple_of rfl T.z_tuple (by decide +kernel) (pa_cons (pe_slice sl_list (pv 9) po_none (po_some (pv 5))) pa_nil)))
    (pss_cons (ps_set (i := 12) sc_law_parts.nd rfl (Or.inl rfl) (pe_disp (pps_cons pe_str pe_str (pps_cons pe_str (pe_callTy call_list_of rfl T.z_list (by decide +kernel) (pa_cons (pv 11) pa_nil)) (pps_cons pe_str (pv 11) (pps_cons pe_str (pv 10) (pps_cons pe_str (pv 8) pps_nil))))) (by rfl) (by rfl) (fun z => by cases z) (by decide)))
    (pss_cons (ps_dput (hu_of hr) (pv 12) pe_str pe_bl rfl)
    (pss_cons (ps_dput (hu_of hr) (pv 12) pe_str pe_bl rfl)
    (pss_cons (ps_set (i := 13) sc_law_parts.nd rfl (Or.inl rfl) (pe_lst pa_nil))
    (pss_cons (ps_for PassesOwn.never rfl (pi_range1 rfl T.z_range (pa_cons (pv 6) pa_nil)) (pg_name (i := 14) sc_law_parts.nd rfl (Or.inl rfl)) (pss_cons (ps_set (i := 15) sc_law_parts.nd rfl (Or.inl rfl) (pe_ix ix_list (pv 9) (pe_op op_add (pv 5) (pv 14)) (fun _ _ => rfl)))
    (pss_cons (ps_set (i := 16) sc_law_parts.nd rfl (Or.inl rfl) (pe_call G__law_rows (hr.mono (by omega)) rfl T.m__law_rows T.F__law_rows.kp T.b__law_rows .nil pass0 (pa_cons (pv 0) (pa_cons (pv 12) (pa_cons pe_int (pa_cons (pe_ix ix_list (pv 1) pe_int (fun _ _ => rfl)) pa_nil))))))
    (C8.pss_cut (ps_if (pt_cmpR op_gt (pe_call G__law_draw (hr.mono (by omega)) rfl T.m__law_draw T.F__law_draw.kp T.b__law_draw .nil pass0 (pa_cons (pv 0) (pa_cons pe_int pa_nil))) pe_int (nomark _)) (pss_one (ps_set (i := 16) sc_law_parts.nd rfl (Or.inl rfl) (pe_op op_catA (pv 16) (pe_tup (pa_cons (pe_tup (pa_cons pe_str (pa_cons (pe_ix ix_list (pv 10) (pe_call G__law_draw (hr.mono (by omega)) rfl T.m__law_draw T.F__law_draw.kp T.b__law_draw .nil pass0 (pa_cons (pv 0) (pa_cons pe_int pa_nil))) (fun _ _ => rfl)) pa_nil))) pa_nil))))) pss_nil)
    (pss_cons (ps_expr (pe_bm PySem.F.plainAttrs_list PySem.F.slot_list_append PySem.F.type_list_append mt_append (pv 13) (pa_cons (pe_tup (pa_cons (pv 15) (pa_cons (pv 16) pa_nil))) pa_nil)))
    (pss_one (ps_dput (hu_of hr) (pv 12) pe_str (pe_op op_cat (pe_dget (hu_of hr) (pv 12) pe_str (fun _ _ => rfl)) (pe_lst (pa_cons (pv 15) pa_nil))) rfl)))))))
    (pss_cons (ps_dput (hu_of hr) (pv 12) pe_str pe_str rfl)
    (pss_cons (ps_dput (hu_of hr) (pv 12) pe_str (pv 2) rfl)
    (pss_cons (ps_dput (hu_of hr) (pv 12) pe_str (pv 3) rfl)
    (pss_cons (ps_set (i := 17) sc_law_parts.nd rfl (Or.inl rfl) (pe_lst pa_nil))
    (pss_cons (ps_for PassesOwn.never rfl (pi_range1 rfl T.z_range (pa_cons (pv 7) pa_nil)) (pg_name (i := 14) sc_law_parts.nd rfl (Or.inl rfl)) (pss_cons (ps_set (i := 16) sc_law_parts.nd rfl (Or.inl rfl) (pe_call G__law_rows (hr.mono (by omega)) rfl T.m__law_rows T.F__law_rows.kp T.b__law_rows .nil pass0 (pa_cons (pv 0) (pa_cons (pv 12) (pa_cons pe_int (pa_cons (pe_ix ix_list (pv 1) pe_int (fun _ _ => rfl)) pa_nil))))))
    (C8.pss_cut (ps_if (pt_cmpR op_gt (pe_call G__law_draw (hr.mono (by omega)) rfl T.m__law_draw T.F__law_draw.kp T.b__law_draw .nil pass0 (pa_cons (pv 0) (pa_cons pe_int pa_nil))) pe_int (nomark _)) (pss_one (ps_set (i := 16) sc_law_parts.nd rfl (Or.inl rfl) (pe_op op_catA (pv 16) (pe_tup (pa_cons (pe_tup (pa_cons pe_str (pa_cons (pe_ix ix_list (pv 10) (pe_call G__law_draw (hr.mono (by omega)) rfl T.m__law_draw T.F__law_draw.kp T.b__law_draw .nil pass0 (pa_cons (pv 0) (pa_cons pe_int pa_nil))) (fun _ _ => rfl)) pa_nil))) pa_nil))))) pss_nil)
    (pss_one (ps_expr (pe_bm PySem.F.plainAttrs_list PySem.F.slot_list_append PySem.F.type_list_append mt_append (pv 17) (pa_cons (pe_tup (pa_cons (pe_ix ix_list (pv 9) (pe_op op_add (pe_op op_add (pv 5) (pv 6)) (pv 14)) (fun _ _ => rfl)) (pa_cons (pv 16) pa_nil))) pa_nil)))))))
    (pss_one (ps_ret (pe_tup (pa_cons (pv 8) (pa_cons (pv 11) (pa_cons (pe_callTy call_tuple_of rfl T.z_tuple (by decide +kernel) (pa_cons (pv 13) pa_nil)) (pa_cons (pe_callTy call_tuple_of rfl T.z_tuple (by decide +kernel) (pa_cons (pv 17) pa_nil)) pa_nil)))))))))))))))))))))))))), ?_⟩
  -- the four numbers
  refine ⟨_, rfl, _, rfl, z, _, 0, _, rfl, rfl, hz, rfl, st, sc, _, rfl, by omega, by omega, ok, fun mw H1 mw0 mw1 k1 o1 _ => ⟨_, _, rfl, rfl, ?_⟩⟩
  have z1 := SqL.keep k1 nz hz
  refine ⟨_, rfl, _, rfl, z, _, 1, _, rfl, rfl, z1, rfl, st, sc, _, rfl, by omega, by omega, o1, fun ms H2 ms0 ms1 k2 o2 _ => ⟨_, _, rfl, rfl, ?_⟩⟩
  have z2 := SqL.keep k2 nz z1
  refine ⟨_, rfl, _, rfl, z, _, 2, _, rfl, rfl, z2, rfl, _, _, rfl, rfl, st, sc, _, rfl, by omega, by omega, o2, fun d1 H3 d10 d11 k3 o3 _ => ?_⟩
  have z3 := SqL.keep k3 nz z2
  refine ⟨_, rfl, _, rfl, z, _, 2, _, rfl, rfl, z3, rfl, _, _, rfl, rfl, st, sc, _, rfl, by omega, by omega, o3, fun d2 H4 d20 d21 k4 o4 _ => ⟨_, _, rfl, ?_⟩⟩
  have z4 := SqL.keep k4 nz z3
  have md0 : 0 ≤ (if d2 > d1 then d2 else d1) ∧ (if d2 > d1 then d2 else d1) ≤ a2 := by split <;> omega
  generalize (if d2 > d1 then d2 else d1) = md at md0
  refine ⟨_, rfl, _, rfl, z, _, 3, _, rfl, rfl, z4, rfl, _, _, rfl, rfl, st, sc, _, rfl, by omega, by omega, o4, fun e1 H5 e10 e11 k5 o5 _ => ?_⟩
  have z5 := SqL.keep k5 nz z4
  refine ⟨_, rfl, _, rfl, z, _, 3, _, rfl, rfl, z5, rfl, _, _, rfl, rfl, st, sc, _, rfl, by omega, by omega, o5, fun e2 H6 e20 e21 k6 o6 _ => ⟨_, _, rfl, ?_⟩⟩
  have z6 := SqL.keep k6 nz z5
  have me0 : 0 ≤ (if e2 > e1 then e2 else e1) ∧ (if e2 > e1 then e2 else e1) ≤ a3 := by split <;> omega
  generalize (if e2 > e1 then e2 else e1) = me at me0
  have k06 : Keep st H H6 := k1.trans (k2.trans (k3.trans (k4.trans (k5.trans k6))))
  -- words, names
  refine ⟨_, rfl, _, rfl, st, sc, _, rfl, by omega, by omega, o6, fun pw ws H7 k7 o7 pw0 pws pwc pwL wl wN => ⟨pw, _, rfl, .inl ⟨SqL.of pwL, fun aw haw => ?_⟩⟩⟩
  have o8 : StOk (upd H7 aw (.tup (ws.map V.str))) st sc := o7.new haw
  have k8 : Keep st H (upd H7 aw (.tup (ws.map V.str))) := k06.trans (k7.trans (Keep.new haw))
  have w8 : SqT K (upd H7 aw (.tup (ws.map V.str))) aw (ws.map V.str) := SqT.of upd_same
  obtain ⟨naw, nawc⟩ := o7.ne haw
  show tSeq _ _ _ _ (upd H7 aw (.tup (ws.map V.str)))
  generalize upd H7 aw (.tup (ws.map V.str)) = H8 at o8 k8 w8
  refine ⟨_, rfl, _, rfl, _, rfl, _, _, rfl, rfl, _, rfl, _, _, rfl, rfl, st, sc, _, rfl, by omega, by omega, o8, fun pN ns H9 k9 o9 pN0 pNs pNc pNL nl nN => ?_⟩
  have k09 := k8.trans k9
  have w9 := SqT.keep k9 naw w8
  have z9 := SqL.keep k09 nz hz
  have hn0 : 0 < ns.length := by omega
  have n0at : atI (ns.map V.str) 0 = some (V.str ns[0]) := atI_nat (j := 0) (by rw [List.getElem?_map, List.getElem?_eq_getElem hn0]; rfl)
  -- the words may get the first name
  refine ⟨fun σ' H' => ∃ (aw : Addr) (ws : List Str), σ' = [some (.ref st), some (.ref z), some (.bl pk), some (.bl wr), some (.int (2 + mw)), some (.int (1 + ms)), some (.int md), some (.int me), some (.ref aw), some (.ref pN), none, none, none, none, none, none, none, none] ∧
    Keep st H H' ∧ StOk H' st sc ∧ SqT K H' aw (ws.map V.str) ∧ aw ≠ st ∧ H' pN = some (.lst (ns.map V.str)) ∧ (ws.length : Int) = 2 + mw ∧ Names ws, ?_, ?_⟩
  · refine ⟨_, rfl, st, sc, 4, rfl, by decide, by decide, o9, fun x H10 x0 x1 k10 o10 _ => ⟨rfl, _, rfl, ?_⟩⟩
    have w10 := SqT.keep k10 naw w9
    have L10 := k10 _ _ pNs pNL
    refine ite2 (fun _ => ?_) (fun _ => ⟨aw, ws, rfl, k09.trans k10, o10, w10, naw, L10, wl, wN⟩)
    refine ⟨_, rfl, pN, _, 0, _, rfl, rfl, SqL.of L10, n0at, _, rfl, aw, _, rfl, .inr w10, rfl, ?_, _, rfl, ?_⟩
    · exact L2.flat_strs ws
    refine ite2 (fun c => ?_) (fun _ => ⟨aw, ws, rfl, k09.trans k10, o10, w10, naw, L10, wl, wN⟩)
    have hnot : ns[0] ∉ ws := by
      have c' : (!inV (V.str ns[0]) (ws.map V.str)) = true := c
      rw [inV_strs] at c'
      simpa using c'
    have wsne : ws.map V.str ≠ [] := by
      intro e
      have := congrArg List.length e
      rw [List.length_map, List.length_nil] at this
      omega
    refine ⟨_, rfl, 1, rfl, aw, _, rfl, w10, fun hh => absurd hh (not_whole1 wsne none), fun _ p1 hp1 => ?_⟩
    have pN1 : upd H10 p1 (.tup (cutV (ws.map V.str) (some 1) none)) pN = some (.lst (ns.map V.str)) := by rw [upd_ne (ne_of_none L10 hp1)]; exact L10
    refine ⟨_, rfl, pN, _, 0, _, rfl, rfl, SqL.of pN1, n0at, by show 1 ≤ sizeLine; decide, fun p2 hp2 => ?_⟩
    have n12 : p1 ≠ p2 := fun e => by rw [← e, upd_same] at hp2; cases hp2
    have hp20 : H10 p2 = none := by rw [upd_ne (Ne.symm n12)] at hp2; exact hp2
    have drop_ne : cutV (ws.map V.str) (some 1) none ≠ [] := by
      rw [cut_from1]
      intro e
      have := congrArg List.length e
      rw [List.length_drop, List.length_map, List.length_nil] at this
      omega
    refine ⟨p1, p2, _, _, rfl, rfl, SqT.of (by rw [upd_ne n12, upd_same]), SqT.of upd_same, Nat.le_of_lt (small1000 ?_), fun e => absurd e drop_ne, fun _ e => (by cases e), fun _ _ p3 hp3 => ?_⟩
    · rw [cut_from1, List.length_drop, List.length_map]; show ws.length - 1 + 1 ≤ 1000; omega
    have k13 : Keep st H (upd (upd (upd H10 p1 (.tup (cutV (ws.map V.str) (some 1) none))) p2 (.tup [V.str ns[0]])) p3 (.tup (cutV (ws.map V.str) (some 1) none ++ [V.str ns[0]]))) :=
      (((k09.trans k10).trans (Keep.new hp1)).trans (Keep.new hp2)).trans (Keep.new hp3)
    have o13 := ((o10.new hp1 (o := .tup (cutV (ws.map V.str) (some 1) none))).new hp2 (o := .tup [V.str ns[0]])).new hp3 (o := .tup (cutV (ws.map V.str) (some 1) none ++ [V.str ns[0]]))
    refine ⟨p3, ws.drop 1 ++ [ns[0]], rfl, k13, o13, ?_, (((o10.new hp1).new hp2).ne hp3).1, ?_, ?_, wN.turn (nN.good _ (List.getElem_mem hn0)) hnot⟩
    · rw [cut_from1]
      have e : (ws.drop 1 ++ [ns[0]]).map V.str = (ws.map V.str).drop 1 ++ [V.str ns[0]] := by rw [List.map_append, List.map_drop]; rfl
      rw [e]
      exact SqT.of upd_same
    · rw [upd_ne (ne_of_none (by rw [upd_ne (ne_of_none pN1 hp2)]; exact pN1) hp3), upd_ne (ne_of_none pN1 hp2)]; exact pN1
    · rw [List.length_append, List.length_drop]; show ((ws.length - 1 + 1 : Nat) : Int) = 2 + mw; omega
  · clear wl wN w9 w8 naw nawc haw aw ws pwL pws pw0 pwc
    rintro σ' H11 ⟨aw, ws, rfl, k11, o11, w11, naw, L11, wl, wN⟩
    -- slots
    refine ⟨_, rfl, st, sc, _, rfl, by decide, by decide, o11, fun pS ss H12 k12 o12 pS0 pSs pSc pSL sl sN => ?_⟩
    have L12 := k12 _ _ pNs L11
    refine ⟨_, rfl, pN, _, 0, _, rfl, rfl, SqL.of L12, n0at, by show 1 ≤ sizeLine; decide, fun p1 hp1 => ?_⟩
    refine ⟨pS, p1, _, _, rfl, rfl, by rw [upd_ne (ne_of_none pSL hp1)]; exact pSL, upd_same, Nat.le_of_lt (small1000 (by rw [List.length_map]; show ss.length + 1 ≤ 1000; omega)), fun p2 hp2 => ?_⟩
    have k13 : Keep st H11 (upd (upd H12 p1 (.lst [V.str ns[0]])) p2 (.lst (ss.map V.str ++ [V.str ns[0]]))) := k12.trans ((Keep.new hp1).trans (Keep.new hp2))
    have o13 := (o12.new hp1 (o := .lst [V.str ns[0]])).new hp2 (o := .lst (ss.map V.str ++ [V.str ns[0]]))
    obtain ⟨np2, np2c⟩ := (o12.new hp1 (o := .lst [V.str ns[0]])).ne hp2
    have es : ss.map V.str ++ [V.str ns[0]] = (ss ++ [ns[0]]).map V.str := by rw [List.map_append]; rfl
    have S13 : upd (upd H12 p1 (.lst [V.str ns[0]])) p2 (.lst (ss.map V.str ++ [V.str ns[0]])) p2 = some (.lst ((ss ++ [ns[0]]).map V.str)) := by rw [upd_same, es]
    have slg : ∀ y ∈ ss ++ [ns[0]], isNm y = true := fun y hy => by
      rcases List.mem_append.mp hy with h | h
      · exact sN.good y h
      · rw [List.mem_singleton.mp h]; exact nN.good _ (List.getElem_mem hn0)
    have sln : (ss ++ [ns[0]]).length = 3 := by rw [List.length_append]; show ss.length + 1 = 3; omega
    show tSeq _ _ _ _ (upd (upd H12 p1 (.lst [V.str ns[0]])) p2 (.lst (ss.map V.str ++ [V.str ns[0]])))
    generalize upd (upd H12 p1 (.lst [V.str ns[0]])) p2 (.lst (ss.map V.str ++ [V.str ns[0]])) = H13 at k13 o13 S13
    generalize ss ++ [ns[0]] = slots at S13 slg sln
    -- sources
    have L13 := k13 _ _ pNs L11
    have msn : ((1 + ms).toNat : Nat) ≤ ns.length := by omega
    have ecut : cutV (ns.map V.str) none (some (1 + ms)) = (ns.take (1 + ms).toNat).map V.str := by
      have := cut_to (ns.map V.str) (1 + ms).toNat (by rw [List.length_map]; omega)
      rw [show (((1 + ms).toNat : Nat) : Int) = 1 + ms by omega] at this
      rw [this, List.map_take]
    refine ⟨_, rfl, _, rfl, _, rfl, pN, _, rfl, SqL.of L13, fun p3 hp3 => ⟨p3, _, rfl, .inl ⟨SqL.of upd_same, fun p4 hp4 => ?_⟩⟩⟩
    rw [ecut] at hp4 ⊢
    have k14 : Keep st H13 (upd (upd H13 p3 (.lst ((ns.take (1 + ms).toNat).map V.str))) p4 (.tup ((ns.take (1 + ms).toNat).map V.str))) := (Keep.new hp3).trans (Keep.new hp4)
    have o14 := (o13.new hp3 (o := .lst ((ns.take (1 + ms).toNat).map V.str))).new hp4 (o := .tup ((ns.take (1 + ms).toNat).map V.str))
    have S14 : SqT K (upd (upd H13 p3 (.lst ((ns.take (1 + ms).toNat).map V.str))) p4 (.tup ((ns.take (1 + ms).toNat).map V.str))) p4 ((ns.take (1 + ms).toNat).map V.str) := SqT.of upd_same
    obtain ⟨np4, np4c⟩ := (o13.new hp3 (o := .lst ((ns.take (1 + ms).toNat).map V.str))).ne hp4
    have srl : (ns.take (1 + ms).toNat).length = (1 + ms).toNat := by rw [List.length_take]; omega
    show tSeq _ _ _ _ (upd (upd H13 p3 (.lst ((ns.take (1 + ms).toNat).map V.str))) p4 (.tup ((ns.take (1 + ms).toNat).map V.str)))
    generalize upd (upd H13 p3 (.lst ((ns.take (1 + ms).toNat).map V.str))) p4 (.tup ((ns.take (1 + ms).toNat).map V.str)) = H14 at k14 o14 S14
    -- the shape
    refine fun pd hpd => ?_
    obtain ⟨npd, npdc⟩ := o14.ne hpd
    refine ⟨_, rfl, p4, _, rfl, .inr (SqT.same (Same.new hpd _) S14), fun p5 hp5 => ?_⟩
    have np5 : p5 ≠ pd := fun e => by rw [e, upd_same] at hp5; cases hp5
    have hp50 : H14 p5 = none := by rw [upd_ne np5] at hp5; exact hp5
    obtain ⟨np5s, np5c⟩ := o14.ne hp50
    refine ⟨_, rfl, _, rfl, _, rfl, by rw [upd_ne (Ne.symm np5), upd_same], shp (.str "derived") (.ref p5) (.ref p4) (.ref p2) (.ref aw), rfl, by show 5 ≤ 15; decide, ?_⟩
    rw [shp_merge]
    refine ⟨_, rfl, pd, _, rfl, DPut.k (k := Sum.inr "peeks") upd_same (small1000 (by show 5 ≤ 1000; decide)), ?_⟩
    rw [shp_peeks, upd_upd]
    refine ⟨_, rfl, pd, _, rfl, DPut.k (k := Sum.inr "writes") upd_same (small1000 (by show 6 ≤ 1000; decide)), ?_⟩
    rw [shp_writes, upd_upd]
    -- derived = []
    refine ⟨Nat.zero_le _, fun pD hpD => ?_⟩
    generalize hse : ns.take (1 + ms).toNat = srcs at S14 srl hpD hp5 ⊢
    have k1114 := k13.trans k14
    have k1014 := k11.trans k1114
    have d0 : H pd = none := k1014.free npd hpd
    have k15 : Keep st H14 (upd (upd (upd H14 pd (.dK [])) p5 (.lst (srcs.map V.str))) pd (.dK (shp7 (.str "derived") (.ref p5) (.ref p4) (.ref p2) (.ref aw) (.bl false) (.bl false)))) :=
      ((Keep.new hpd).trans (Keep.new hp5)).own hpd
    have o15 : StOk (upd (upd (upd H14 pd (.dK [])) p5 (.lst (srcs.map V.str))) pd (.dK (shp7 (.str "derived") (.ref p5) (.ref p4) (.ref p2) (.ref aw) (.bl false) (.bl false)))) st sc :=
      ((o14.new hpd).new hp5).other npd npdc
    have dd15 : upd (upd (upd H14 pd (.dK [])) p5 (.lst (srcs.map V.str))) pd (.dK (shp7 (.str "derived") (.ref p5) (.ref p4) (.ref p2) (.ref aw) (.bl false) (.bl false))) pd = some (.dK (shp7 (.str "derived") (.ref p5) (.ref p4) (.ref p2) (.ref aw) (.bl false) (.bl false))) := upd_same
    have pc15 : upd (upd (upd H14 pd (.dK [])) p5 (.lst (srcs.map V.str))) pd (.dK (shp7 (.str "derived") (.ref p5) (.ref p4) (.ref p2) (.ref aw) (.bl false) (.bl false))) p5 = some (.lst (srcs.map V.str)) := by rw [upd_ne np5, upd_same]
    generalize upd (upd (upd H14 pd (.dK [])) p5 (.lst (srcs.map V.str))) pd (.dK (shp7 (.str "derived") (.ref p5) (.ref p4) (.ref p2) (.ref aw) (.bl false) (.bl false))) = H15 at k15 o15 dd15 pc15 hpD ⊢
    have k1115 := k1114.trans k15
    have kH15 := k1014.trans k15
    obtain ⟨npD, npDc⟩ := o15.ne hpD
    have D0 : H pD = none := kH15.free npD hpD
    have L15 := k1115 _ _ pNs L11
    have S15 := (k14.trans k15) _ _ np2 S13
    have ne : PNe H st sc aw pN p2 p4 pd pD := ⟨naw, pNs, np2, np4, npd, npD, npdc, npDc, d0, D0, ne_of_none L15 hpD, ne_of_none S15 hpD⟩
    have ps0 : PSt K H (upd H15 pD (.lst [])) st sc aw pN p2 p4 pd pD ws srcs slots ns (.str "derived") (.bl false) (.bl false) srcs [] [] :=
      ⟨kH15.trans (Keep.new hpD), o15.new hpD, SqT.keep (k1115.trans (Keep.new hpD)) naw w11, SqT.keep (k15.trans (Keep.new hpD)) np4 S14, (Keep.new hpD) _ _ pNs L15, (Keep.new hpD) _ _ np2 S15,
        ⟨p5, (Keep.new hpD) _ _ npd dd15, (Keep.new hpD) _ _ np5s pc15, np5s, ne_of_none pc15 hpD⟩, upd_same, .nil⟩
    have w0 : ws ≠ [] := fun e => by rw [e] at wl; simp at wl; omega
    have sl0 : slots ≠ [] := fun e => by rw [e] at sln; simp at sln
    have so0 : srcs ≠ [] := fun e => by rw [e] at srl; simp at srl; omega
    have w100 : ws.length ≤ 100 := by omega
    have sr100 : srcs.length ≤ 100 := by omega
    -- the derived cells
    refine ⟨_, rfl, md, rfl, by omega, by omega, for_range (lo := 0) (n := md.toNat) (fun i σ H' => ∃ (v14 v15 v16 : Option V) (xs : List V) (ds : List (Str × List Td.Row)),
      σ = [some (.ref st), some (.ref z), some (.bl pk), some (.bl wr), some (.int (2 + mw)), some (.int (1 + ms)), some (.int md), some (.int me), some (.ref aw), some (.ref pN), some (.ref p2), some (.ref p4), some (.ref pd), some (.ref pD), v14, v15, v16, none] ∧
      PSt K H H' st sc aw pN p2 p4 pd pD ws srcs slots ns (.str "derived") (.bl false) (.bl false) (srcs ++ ds.map (·.1)) xs ds ∧ ds.length = i ∧ ds.map (·.1) = (ns.drop (1 + ms).toNat).take i ∧ okDer ws srcs (a4.toNat + 1) srcs ds)
      ⟨none, none, none, [], [], rfl, by simpa using ps0, rfl, by simp, by unfold okDer; trivial⟩ ?_ ?_⟩
    · rintro i σ H1 hi ⟨v14, v15, v16, xs, ds, rfl, ps, dl, dn, dok⟩
      have hil : (1 + ms).toNat + i < ns.length := by omega
      have hat : atI (ns.map V.str) (1 + ms + (0 + (i : Int))) = some (V.str ns[(1 + ms).toNat + i]) := by
        have : atI (ns.map V.str) (((1 + ms).toNat + i : Nat) : Int) = some (V.str ns[(1 + ms).toNat + i]) := atI_nat (by rw [List.getElem?_map, List.getElem?_eq_getElem hil]; rfl)
        rwa [show (((1 + ms).toNat + i : Nat) : Int) = 1 + ms + (0 + (i : Int)) by omega] at this
      refine ⟨_, rfl, _, rfl, _, rfl, _, _, rfl, rfl, pN, _, _, _, rfl, rfl, SqL.of ps.nA, hat, ?_⟩
      generalize hnm : ns[(1 + ms).toNat + i] = nm at hat
      have xl : xs.length = ds.length := by rw [ps.tA.length, List.length_map]
      have sh := ps.shape (eff := false) ne (fun h => nomatch h) (fun h => nomatch h) w0 sl0 (by simp [so0]) so0 ⟨w100, by omega, by rw [List.length_append, List.length_map]; omega, sr100⟩ slg
      refine ⟨_, rfl, _, rfl, _, rfl, z, _, 4, _, rfl, rfl, SqL.keep ps.kp nz hz, rfl, st, sc, pd, _, slots, 1, a4, rfl, ps.ok, sh, by decide, by decide, a40, by omega, fun rv rs H2 k2 o2 okr cr tr => ?_⟩
      have ps2 := ps.keep ne k2 o2
      refine ⟨fun σ' H' => ∃ (rv' : V) (rs' : List Td.Row), σ' = [some (.ref st), some (.ref z), some (.bl pk), some (.bl wr), some (.int (2 + mw)), some (.int (1 + ms)), some (.int md), some (.int me), some (.ref aw), some (.ref pN), some (.ref p2), some (.ref p4), some (.ref pd), some (.ref pD), some (.int (0 + (i : Int))), some (.str nm), some rv', none] ∧
        PSt K H H' st sc aw pN p2 p4 pd pD ws srcs slots ns (.str "derived") (.bl false) (.bl false) (srcs ++ ds.map (·.1)) xs ds ∧ okRs ⟨false, ws, srcs, srcs ++ ds.map (·.1)⟩ 1 rs' ∧ Lim false (a4.toNat + 1) rs' ∧ Tn K H' rv' (.tuple (rowsD rs')), ?_, ?_⟩
      · refine ⟨_, rfl, st, sc, 4, rfl, by decide, by decide, o2, fun x H3 x0 x1 k3 o3 _ => ⟨_, _, rfl, rfl, _, rfl, ?_⟩⟩
        have ps3 := ps2.keep ne k3 o3
        have tr3 := Tn.keep (TK.of_keep k3 o2.chg) tr
        refine ite2 (fun _ => ?_) (fun _ => ⟨rv, rs, rfl, ps3, okr, ⟨by omega, rs, [], (List.append_nil rs).symm, by omega, .inl rfl⟩, tr3⟩)
        obtain ⟨ar, ys, rfl, hS3, hT3⟩ := Tn.tup_inv tr3
        have yl : ys.length = rs.length := by rw [hT3.length, rowsD_length]
        have := cnts_len rs
        refine ⟨_, rfl, _, rfl, _, rfl, st, sc, 3, rfl, by decide, by decide, o3, fun y H4 y0 y1 k4 o4 _ => ?_⟩
        have ps4 := ps3.keep ne k4 o4
        obtain ⟨sl, hsl, esl⟩ := pick (xs := slots) y0 (by rw [List.length_map]; omega)
        refine ⟨p2, _, y, _, rfl, rfl, SqL.of ps4.lA, esl, by show 2 ≤ sizeLine; decide, fun t1 ht1 => ⟨by show 1 ≤ sizeLine; decide, fun t2 ht2 => ?_⟩⟩
        have g1 : Tn K (upd H4 t1 (.tup [.str "give", .str sl])) (.ref t1) (rowD (.give sl)) := by unfold rowD; exact Tn.new (TnAll.strs ["give", sl]) ht1
        have g2 := Tn.new (TnAll.one g1) ht2
        have ps5 := (ps4.new ne ht1 (o := .tup [.str "give", .str sl])).new ne ht2 (o := .tup [.ref t1])
        have tkx : TK H3 (upd (upd H4 t1 (.tup [.str "give", .str sl])) t2 (.tup [.ref t1])) := ((TK.of_keep k4 o3.chg).trans (TK.of_same (Same.new ht1 _))).trans (TK.of_same (Same.new ht2 _))
        have okg : okRs ⟨false, ws, srcs, srcs ++ ds.map (·.1)⟩ 1 (rs ++ [Td.Row.give sl]) := okRs_append okr (okRs_one (by unfold okR; exact ⟨rfl, slg sl hsl⟩))
        have cg : Lim false (a4.toNat + 1) (rs ++ [Td.Row.give sl]) := ⟨by rw [cnts_append, cnts_one]; show cnts rs + 1 ≤ _; omega, rs, [.give sl], rfl, by omega, .inr ⟨sl, rfl⟩⟩
        refine ⟨ar, t2, ys, [.ref t1], rfl, rfl, SqT.tk tkx hS3, SqT.of upd_same, Nat.le_of_lt (small1000 (by show ys.length + 1 ≤ 1000; omega)), fun e => ?_, fun _ e => (by cases e), fun _ _ t3 ht3 => ?_⟩
        · have er : rs = [] := by
            rw [e] at yl
            exact List.length_eq_zero_iff.mp yl.symm
          refine ⟨_, rs ++ [.give sl], rfl, ps5, okg, cg, ?_⟩
          rw [er]
          exact g2
        · refine ⟨_, rs ++ [.give sl], rfl, ps5.new ne ht3, okg, cg, ?_⟩
          rw [rowsD_append, rowsD_one]
          exact Tn.new (TnAll.append (TnAll.keep tkx hT3) (TnAll.one (Tn.keep (TK.of_same (Same.new ht2 _)) g1))) ht3
      · rintro σ' H3 ⟨rv', rs', rfl, ps3, okr', cr', tr'⟩
        refine ⟨_, rfl, .inl ⟨rfl, _, SqL.of ps3.xA⟩, _, rfl, _, rfl, by show 2 ≤ sizeLine; decide, fun t ht => ?_⟩
        have ps4 := ps3.new ne ht (o := .tup [.str nm, rv'])
        have tp : Tn K (upd H3 t (.tup [.str nm, rv'])) (.ref t) (Td.pairD (nm, rs')) := Tn.new (.cons (.str nm) (TnAll.one tr')) ht
        refine ⟨pD, _, _, rfl, rfl, ps4.xA, small1000 (by omega), ?_⟩
        have ps5 := ps4.app ne tp
        obtain ⟨pc, c1, c2, c3, c4⟩ := ps5.dA
        refine ⟨_, rfl, pd, _, rfl, dget_of c1 (get_cells ..), _, rfl, by show 1 ≤ sizeLine; decide, fun l hl => ?_⟩
        have ps6 := ps5.new ne hl (o := .lst [.str nm])
        refine ⟨pc, l, _, _, rfl, rfl, by rw [upd_ne (ne_of_none c2 hl)]; exact c2, upd_same, Nat.le_of_lt (small1000 ?_), fun l2 hl2 => ?_⟩
        · rw [List.length_map, List.length_append, List.length_map]; show srcs.length + ds.length + 1 ≤ 1000; omega
        have ps7 := ps6.new ne hl2 (o := .lst ((srcs ++ ds.map (·.1)).map V.str ++ [.str nm]))
        obtain ⟨pc', e1, e2, e3, e4⟩ := ps7.dA
        refine ⟨_, rfl, pd, _, rfl, DPut.k (k := Sum.inr "cells") e1 (small1000 (by show 7 ≤ 1000; decide)), ?_⟩
        rw [shp7_cells]
        have er : (srcs ++ ds.map (·.1)).map V.str ++ [V.str nm] = (srcs ++ (ds ++ [(nm, rs')]).map (·.1)).map V.str := by simp
        have ps8 := ps7.put (kd' := .str "derived") (pk' := .bl false) (wr' := .bl false) (rd' := srcs ++ (ds ++ [(nm, rs')]).map (·.1)) (pc' := l2) ne (by rw [upd_same, er])
          (ps6.ok.ne hl2).1 (Ne.symm (ne_of_none ps6.xA hl2))
        refine ⟨_, _, _, _, ds ++ [(nm, rs')], rfl, ps8, by rw [List.length_append, dl]; rfl, ?_, okDer_snoc dok okr' cr'⟩
        rw [List.map_append, dn]
        have hx : i < (ns.drop (1 + ms).toNat).length := by rw [List.length_drop]; omega
        rw [List.take_succ_eq_append_getElem hx, List.getElem_drop, hnm]
        rfl
    · rintro σ H1 ⟨v14, v15, v16, xs, ds, rfl, ps, dl, dn, dok⟩
      -- the shape of effects
      obtain ⟨pc, c1, c2, c3, c4⟩ := ps.dA
      refine ⟨_, rfl, pd, _, rfl, DPut.k (k := Sum.inr "kind") c1 (small1000 (by show 7 ≤ 1000; decide)), ?_⟩
      rw [shp7_kind]
      have ps1 := ps.put (kd' := .str "effects") (pk' := .bl false) (wr' := .bl false) ne c2 c3 c4
      refine ⟨_, rfl, _, rfl, pd, _, rfl, DPut.k (k := Sum.inr "peeks") upd_same (small1000 (by show 7 ≤ 1000; decide)), ?_⟩
      rw [shp7_peeks, upd_upd]
      refine ⟨_, rfl, _, rfl, pd, _, rfl, DPut.k (k := Sum.inr "writes") upd_same (small1000 (by show 7 ≤ 1000; decide)), ?_⟩
      rw [shp7_writes, upd_upd]
      have ps3 := ps.put (kd' := .str "effects") (pk' := .bl pk) (wr' := .bl wr) ne c2 c3 c4
      refine ⟨Nat.zero_le _, fun pE hpE => ?_⟩
      show tSeq _ _ _ _ (upd (upd H1 pd (.dK (shp7 (.str "effects") (.ref pc) (.ref p4) (.ref p2) (.ref aw) (.bl pk) (.bl wr)))) pE (.lst []))
      generalize upd H1 pd (.dK (shp7 (.str "effects") (.ref pc) (.ref p4) (.ref p2) (.ref aw) (.bl pk) (.bl wr))) = H2 at ps3 hpE
      obtain ⟨npE, npEc⟩ := ps3.ok.ne hpE
      have nDE : pD ≠ pE := ne_of_none ps3.xA hpE
      have nE : PNe H st sc aw pN p2 p4 pd pE := ⟨naw, pNs, np2, np4, npd, npE, npdc, npEc, d0, ps3.kp.free npE hpE, ne_of_none ps3.nA hpE, ne_of_none ps3.lA hpE⟩
      have pe0 : PSt K H (upd H2 pE (.lst [])) st sc aw pN p2 p4 pd pE ws srcs slots ns (.str "effects") (.bl pk) (.bl wr) (srcs ++ ds.map (·.1)) [] [] := by
        have pn := ps3.new ne hpE (o := .lst [])
        obtain ⟨pc', e1, e2, e3, e4⟩ := ps3.dA
        exact ⟨pn.kp, pn.ok, pn.wA, pn.sA, pn.nA, pn.lA, ⟨pc', (Keep.new hpE (st := st)) _ _ npd e1, (Keep.new hpE (st := st)) _ _ e3 e2, e3, ne_of_none e2 hpE⟩, upd_same, .nil⟩
      have xl : xs.length = ds.length := by rw [ps.tA.length, List.length_map]
      have ddl : ds.length ≤ 6 := by omega
      refine ⟨_, rfl, me, rfl, by omega, by omega, for_range (lo := 0) (n := me.toNat) (fun i σ H' => ∃ (v14 v16 : Option V) (ys : List V) (es : List (Str × List Td.Row)),
        σ = [some (.ref st), some (.ref z), some (.bl pk), some (.bl wr), some (.int (2 + mw)), some (.int (1 + ms)), some (.int md), some (.int me), some (.ref aw), some (.ref pN), some (.ref p2), some (.ref p4), some (.ref pd), some (.ref pD), v14, v15, v16, some (.ref pE)] ∧
        PSt K H H' st sc aw pN p2 p4 pd pE ws srcs slots ns (.str "effects") (.bl pk) (.bl wr) (srcs ++ ds.map (·.1)) ys es ∧ H' pD = some (.lst xs) ∧ TnAll K H' xs (ds.map Td.pairD) ∧ es.length = i ∧ es.map (·.1) = (ns.drop ((1 + ms).toNat + md.toNat)).take i ∧ okEff ws srcs (srcs ++ ds.map (·.1)) (a4.toNat + 1) es)
        ⟨v14, v16, [], [], rfl, pe0, by rw [upd_ne nDE]; exact ps3.xA, TnAll.keep (TK.of_same (Same.new hpE _)) ps3.tA, rfl, by simp, by unfold okEff; trivial⟩ ?_ ?_⟩
      · rintro i σ H3 hi ⟨v14, v16, ys, es, rfl, pe, sX, sT, el, en, eok⟩
        have hil : (1 + ms).toNat + md.toNat + i < ns.length := by omega
        have hat : atI (ns.map V.str) (1 + ms + md + (0 + (i : Int))) = some (V.str ns[(1 + ms).toNat + md.toNat + i]) := by
          have : atI (ns.map V.str) (((1 + ms).toNat + md.toNat + i : Nat) : Int) = some (V.str ns[(1 + ms).toNat + md.toNat + i]) := atI_nat (by rw [List.getElem?_map, List.getElem?_eq_getElem hil]; rfl)
          rwa [show (((1 + ms).toNat + md.toNat + i : Nat) : Int) = 1 + ms + md + (0 + (i : Int)) by omega] at this
        generalize hnm : ns[(1 + ms).toNat + md.toNat + i] = nm at hat
        have yl : ys.length = es.length := by rw [pe.tA.length, List.length_map]
        have sh := pe.shape (eff := true) nE (fun _ => rfl) (fun _ => rfl) w0 sl0 (by simp [so0]) so0 ⟨w100, by omega, by rw [List.length_append, List.length_map]; omega, sr100⟩ slg
        refine ⟨_, rfl, _, rfl, _, rfl, z, _, 4, _, rfl, rfl, SqL.keep pe.kp nz hz, rfl, st, sc, pd, _, slots, 1, a4, rfl, pe.ok, sh, by decide, by decide, a40, by omega, fun rv rs H4 k4 o4 okr cr tr => ?_⟩
        have pe4 := pe.keep nE k4 o4
        have sX4 := k4 _ _ npD sX
        have sT4 := TnAll.keep (TK.of_keep k4 pe.ok.chg) sT
        refine ⟨fun σ' H' => ∃ (rv' : V) (rs' : List Td.Row), σ' = [some (.ref st), some (.ref z), some (.bl pk), some (.bl wr), some (.int (2 + mw)), some (.int (1 + ms)), some (.int md), some (.int me), some (.ref aw), some (.ref pN), some (.ref p2), some (.ref p4), some (.ref pd), some (.ref pD), some (.int (0 + (i : Int))), v15, some rv', some (.ref pE)] ∧
          PSt K H H' st sc aw pN p2 p4 pd pE ws srcs slots ns (.str "effects") (.bl pk) (.bl wr) (srcs ++ ds.map (·.1)) ys es ∧ H' pD = some (.lst xs) ∧ TnAll K H' xs (ds.map Td.pairD) ∧ okRs ⟨true, ws, srcs, srcs ++ ds.map (·.1)⟩ 1 rs' ∧ Lim true (a4.toNat + 1) rs' ∧ Tn K H' rv' (.tuple (rowsD rs')), ?_, ?_⟩
        · refine ⟨_, rfl, st, sc, 4, rfl, by decide, by decide, o4, fun x H5 x0 x1 k5 o5 _ => ⟨_, _, rfl, rfl, _, rfl, ?_⟩⟩
          have pe5 := pe4.keep nE k5 o5
          have tr5 := Tn.keep (TK.of_keep k5 o4.chg) tr
          have sX5 := k5 _ _ npD sX4
          have sT5 := TnAll.keep (TK.of_keep k5 o4.chg) sT4
          refine ite2 (fun _ => ?_) (fun _ => ⟨rv, rs, rfl, pe5, sX5, sT5, okr, ⟨by omega, rs, [], (List.append_nil rs).symm, by omega, .inl rfl⟩, tr5⟩)
          obtain ⟨ar, us, rfl, hS5, hT5⟩ := Tn.tup_inv tr5
          have ul : us.length = rs.length := by rw [hT5.length, rowsD_length]
          have := cnts_len rs
          refine ⟨_, rfl, _, rfl, _, rfl, st, sc, 3, rfl, by decide, by decide, o5, fun y H6 y0 y1 k6 o6 _ => ?_⟩
          have pe6 := pe5.keep nE k6 o6
          obtain ⟨sl, hsl, esl⟩ := pick (xs := slots) y0 (by rw [List.length_map]; omega)
          refine ⟨p2, _, y, _, rfl, rfl, SqL.of pe6.lA, esl, by show 2 ≤ sizeLine; decide, fun t1 ht1 => ⟨by show 1 ≤ sizeLine; decide, fun t2 ht2 => ?_⟩⟩
          have g1 : Tn K (upd H6 t1 (.tup [.str "say", .str sl])) (.ref t1) (rowD (.say sl)) := by unfold rowD; exact Tn.new (TnAll.strs ["say", sl]) ht1
          have g2 := Tn.new (TnAll.one g1) ht2
          have pe7 := (pe6.new nE ht1 (o := .tup [.str "say", .str sl])).new nE ht2 (o := .tup [.ref t1])
          have kx : Keep st H5 (upd (upd H6 t1 (.tup [.str "say", .str sl])) t2 (.tup [.ref t1])) := (k6.trans (Keep.new ht1)).trans (Keep.new ht2)
          have tkx := TK.of_keep kx o5.chg
          have sX7 := kx _ _ npD sX5
          have sT7 := TnAll.keep tkx sT5
          have okg : okRs ⟨true, ws, srcs, srcs ++ ds.map (·.1)⟩ 1 (rs ++ [Td.Row.say sl]) := okRs_append okr (okRs_one (by unfold okR; exact ⟨rfl, slg sl hsl⟩))
          have cg : Lim true (a4.toNat + 1) (rs ++ [Td.Row.say sl]) := ⟨by rw [cnts_append, cnts_one]; show cnts rs + 1 ≤ _; omega, rs, [.say sl], rfl, by omega, .inr ⟨sl, rfl⟩⟩
          refine ⟨ar, t2, us, [.ref t1], rfl, rfl, SqT.tk tkx hS5, SqT.of upd_same, Nat.le_of_lt (small1000 (by show us.length + 1 ≤ 1000; omega)), fun e => ?_, fun _ e => (by cases e), fun _ _ t3 ht3 => ?_⟩
          · have er : rs = [] := by
              rw [e] at ul
              exact List.length_eq_zero_iff.mp ul.symm
            refine ⟨_, rs ++ [.say sl], rfl, pe7, sX7, sT7, okg, cg, ?_⟩
            rw [er]
            exact g2
          · refine ⟨_, rs ++ [.say sl], rfl, pe7.new nE ht3, (Keep.new ht3 (st := st)) _ _ npD sX7, TnAll.keep (TK.of_same (Same.new ht3 _)) sT7, okg, cg, ?_⟩
            rw [rowsD_append, rowsD_one]
            exact Tn.new (TnAll.append (TnAll.keep tkx hT5) (TnAll.one (Tn.keep (TK.of_same (Same.new ht2 _)) g1))) ht3
        · rintro σ' H5 ⟨rv', rs', rfl, pe5, sX5, sT5, okr', cr', tr'⟩
          refine ⟨_, rfl, .inl ⟨rfl, _, SqL.of pe5.xA⟩, _, rfl, _, rfl, _, rfl, _, _, rfl, rfl, _, rfl, _, _, rfl, rfl, pN, _, _, _, rfl, rfl, SqL.of pe5.nA, hat, _, rfl, by show 2 ≤ sizeLine; decide, fun t ht => ?_⟩
          have pe6 := pe5.new nE ht (o := .tup [.str nm, rv'])
          have tp : Tn K (upd H5 t (.tup [.str nm, rv'])) (.ref t) (Td.pairD (nm, rs')) := Tn.new (.cons (.str nm) (TnAll.one tr')) ht
          refine ⟨pE, _, _, rfl, rfl, pe6.xA, small1000 (by omega), ?_⟩
          have pe7 := pe6.app nE tp
          have sX6 : upd H5 t (.tup [.str nm, rv']) pD = some (.lst xs) := (Keep.new ht (st := st)) _ _ npD sX5
          have sT6 := TnAll.keep (TK.of_same (Same.new ht (.tup [.str nm, rv']))) sT5
          refine ⟨_, _, _, es ++ [(nm, rs')], rfl, pe7, by rw [upd_ne nDE]; exact sX6, TnAll.keep (TK.upd (by rw [pe6.xA]; trivial)) sT6, by rw [List.length_append, el]; rfl, ?_, okEff_snoc eok okr' cr'⟩
          rw [List.map_append, en]
          have hx : i < (ns.drop ((1 + ms).toNat + md.toNat)).length := by rw [List.length_drop]; omega
          rw [List.take_succ_eq_append_getElem hx, List.getElem_drop, hnm]
          rfl
      · rintro σ H3 ⟨v14, v16, ys, es, rfl, pe, sX, sT, el, en, eok⟩
        have yl : ys.length = es.length := by rw [pe.tA.length, List.length_map]
        refine ⟨_, rfl, _, rfl, _, rfl, pD, _, rfl, .inl ⟨SqL.of sX, fun t1 ht1 => ?_⟩⟩
        have pe1 := pe.new nE ht1 (o := .tup xs)
        refine ⟨_, rfl, pE, _, rfl, .inl ⟨SqL.of pe1.xA, fun t2 ht2 => ?_⟩⟩
        have pe2 := pe1.new nE ht2 (o := .tup ys)
        refine ⟨by show 4 ≤ sizeLine; decide, fun t3 ht3 => ?_⟩
        have pe3 := pe2.new nE ht3 (o := .tup [.ref aw, .ref p4, .ref t1, .ref t2])
        have tD : Tn K (upd (upd H3 t1 (.tup xs)) t2 (.tup ys)) (.ref t1) (pairsD ds) := Tn.keep (TK.of_same (Same.new ht2 _)) (Tn.new sT ht1)
        have tE : Tn K (upd (upd H3 t1 (.tup xs)) t2 (.tup ys)) (.ref t2) (pairsD es) := Tn.new pe1.tA ht2
        refine q _ ⟨ws, srcs, ds, es⟩ _ pe3.kp pe3.ok ⟨by show 2 ≤ ws.length; omega, by show ws.length ≤ 4; omega, by show 1 ≤ srcs.length; omega, by show srcs.length ≤ 4; omega, ddl, by show es.length ≤ 4; omega, wN, ?_, dok, eok⟩ ?_
        · have e : PP.names ⟨ws, srcs, ds, es⟩ = ns := by
            show srcs ++ ds.map (·.1) ++ es.map (·.1) = ns
            rw [dn, en, ← hse]
            have h1 := List.take_append_drop (1 + ms).toNat ns
            have h2 := List.take_append_drop md.toNat (ns.drop (1 + ms).toNat)
            rw [List.drop_drop] at h2
            have h3 : (ns.drop ((1 + ms).toNat + md.toNat)).take me.toNat = ns.drop ((1 + ms).toNat + md.toNat) := List.take_of_length_le (by rw [List.length_drop]; omega)
            rw [h3, List.append_assoc, h2, h1]
          rw [e]; exact nN
        · exact Tn.new (.cons (.tup pe2.wA (TnAll.strs ws)) (.cons (.tup pe2.sA (TnAll.strs srcs)) (.cons tD (TnAll.one tE)))) ht3
end
end K01
namespace K01
open PySem PySem.Spec PyProof.Rows L2 Td
/-! ### names and pairs that are right -/
def spIsName : Sp := fun vs H Q _ => ∃ z, vs = [.str z] ∧ isNm z = true ∧ ∀ H', Same H H' → Q (.bl true) H'
def spAreNames (K : PySem.W.Frag) : Sp := fun vs H Q _ => ∃ (a : Addr) (zs : List Str) (l m : Int), vs = [.ref a, .int l, .int m] ∧ SqT K H a (zs.map V.str) ∧ Names zs ∧ l ≤ zs.length ∧ (zs.length : Int) ≤ m ∧ zs.length ≤ 100 ∧
  ∀ H', Same H H' → Q (.bl true) H'
def spNamedPairs (K : PySem.W.Frag) : Sp := fun vs H Q _ => ∃ (v : V) (tk : Addr) (ps : List (Str × List Td.Row)) (ts : List Str) (m : Int), vs = [v, .int m, .ref tk] ∧ Tn K H v (pairsD ps) ∧ SqT K H tk (ts.map V.str) ∧
  Names (ts ++ ps.map (·.1)) ∧ (ps.length : Int) ≤ m ∧ ps.length ≤ 100 ∧ ts.length ≤ 100 ∧ ∀ H', Same H H' → Q (.bl true) H'
def spNamesOf (K : PySem.W.Frag) : Sp := fun vs H Q _ => ∃ (v : V) (ps : List (Str × List Td.Row)), vs = [v] ∧ Tn K H v (pairsD ps) ∧ ps.length ≤ 100 ∧
  ∀ (p : Addr) H', Same H H' → SqT K H' p (ps.map fun q => V.str q.1) → Q (.ref p) H'
theorem isNm_len {z : Str} (h : isNm z = true) : 1 ≤ z.length ∧ z.length ≤ 8 ∧ z.cps.toList.all lowc = true := by
  unfold isNm at h
  simp only [Bool.and_eq_true, decide_eq_true_eq] at h
  exact ⟨h.1.1, h.1.2, h.2⟩
theorem ty_tup {K : PySem.W.Frag} {H : Hp} {a : Addr} {xs : List V} (h : SqT K H a xs) : TyX K H (.ref a) (.type "tuple") := by
  rcases h with (h | ⟨o, h⟩) | ⟨o, its, n, h, c, _⟩
  · exact .base (.tup h)
  · exact .fTuple h
  · exact .kTuple h c
/-- the pairs' items -/
theorem pairs_at {K : PySem.W.Frag} {H : Hp} {v : V} {ps : List (Str × List Td.Row)} (h : Tn K H v (pairsD ps)) : ∃ (a : Addr) (xs : List V), v = .ref a ∧ SqT K H a xs ∧ xs.length = ps.length ∧
    ∀ (i : Nat) (x : V), xs[i]? = some x → ∃ (q : Str × List Td.Row) (b : Addr) (vr : V), ps[i]? = some q ∧ x = .ref b ∧ SqT K H b [.str q.1, vr] ∧ Tn K H vr (.tuple (rowsD q.2)) := by
  obtain ⟨a, xs, rfl, hS, hT⟩ := Tn.tup_inv h
  have hl := hT.length
  rw [List.length_map] at hl
  refine ⟨a, xs, rfl, hS, hl, fun i x hx => ?_⟩
  have hi : i < ps.length := by rw [← hl]; exact (List.getElem?_eq_some_iff.mp hx).1
  obtain ⟨d, h1, h2⟩ := TnAll.get hT hx
  rw [List.getElem?_map, List.getElem?_eq_getElem hi] at h1
  cases h1
  obtain ⟨b, ys, rfl, hS2, hT2⟩ := Tn.tup_inv h2
  cases hT2 with
  | cons c1 c2 =>
    cases c1
    cases c2 with
    | cons c3 c4 =>
      cases c4
      exact ⟨_, b, _, List.getElem?_eq_getElem hi, rfl, hS2, c3⟩
section
variable {P : Program} {w : World} {K : PySem.W.Frag} {mg : Str → Option Value} {base : Heap}
theorem ok_is_name (T : Tops w K mg) : FnOk P w K mg base CX0 1 T.a_is_name T.d_is_name ["value"] spIsName := by
  refine T.F_is_name.ok sc_is_name (fun vs H Q E h => ?_) (fun cdv A outer s H vs Q E hr h => ?_)
  · obtain ⟨z, rfl, _⟩ := h
    rfl
  obtain ⟨z, rfl, hz, q⟩ := h
  obtain ⟨z1, z8, zl⟩ := isNm_len hz
  refine ⟨_, (pss_cons (ps_if (PW.pt (pw_or (pt_not (pt_val (pe_callB call_isi rfl T.z_isinstance (by decide +kernel) (pa_cons (pv 0) (pa_cons (pe_bltn (v := .ty "str") rfl T.z_str (by decide +kernel) rfl) pa_nil))))) (pw_or1 (pt_not (pt_chain op_le op_le pe_int (pe_callB call_len rfl T.z_len PySem.boot_len (pa_cons (pv 0) pa_nil)) (pe_glob (v := .int 8) rfl T.c_LONGEST_NAME ⟨_, rfl⟩)))))) (pss_one (ps_ret pe_bl)) pss_nil)
    (pss_one (ps_ret (pe_callB (cr_all rfl) rfl T.z_all (by decide +kernel) (pa_cons (pe_lc (own := [("letter", 1)]) (g := gName 1) (tt := tYes) rfl sc_is_name.nd (pi_str (pv 0)) (blkOk_by (own := [("letter", 1)]) (N := N_is_name) (sc := defScope s_is_name) (by decide +kernel)) (fun _ _ _ _ _ => (pg_name (i := 1) sc_is_name.nd rfl (Or.inl rfl))) (fun _ _ _ _ _ => pts_nil) (fun _ _ _ _ _ => (pe_chain op_le_str op_le_str pe_str (pv 1) pe_str))) pa_nil))))), ?_⟩
  have zs : z.length ≤ sizeLine := Nat.le_of_lt (small1000 (by omega))
  refine ⟨_, rfl, .str z, .ty "str", .type "str", .type "str", true, rfl, .ty _, .base (.str z), kit_ty (by decide +kernel), true, rfl, iteF ?_⟩
  refine ⟨_, rfl, .str z, _, rfl, ⟨zs, rfl⟩, _, _, rfl, rfl, _, rfl, ?_⟩
  have e1 : decide ((1 : Int) ≤ (z.length : Int)) = true := decide_eq_true (by omega)
  refine if_true_of e1 ?_
  have e2 : decide ((z.length : Int) ≤ (8 : Int)) = true := decide_eq_true (by omega)
  refine ⟨_, _, rfl, rfl, _, rfl, ?_⟩
  refine if_false_of (by rw [e2]; rfl) ?_
  -- all([..])
  refine ⟨_, rfl, z, rfl, fun D hD => lc_str (fun i H' => ∃ bs : List Bool, Same H H' ∧ H' D = some (.lst (bs.map V.bl)) ∧ bs.length = i ∧ bs.all id = true) ⟨[], Same.new hD _, upd_same, rfl, rfl⟩ ?_ ?_⟩
  · rintro i c H' hc ⟨bs, hs, hb, hl, ha⟩
    have hlow : lowc c = true := by
      rw [List.all_eq_true] at zl
      exact zl c (by rw [Array.mem_toList_iff]; exact Array.mem_of_getElem? hc)
    unfold lowc at hlow
    simp only [Bool.and_eq_true, decide_eq_true_eq] at hlow
    have na : ("a" : Str).cps.toList = [97] := by decide +kernel
    have nz : ("z" : Str).cps.toList = [122] := by decide +kernel
    have k1 : (!decide ((⟨#[c]⟩ : Str).cps.toList < ("a" : Str).cps.toList)) = true := by
      rw [na]
      show (!decide ([c] < [97])) = true
      simp [List.cons_lt_cons_iff]
      omega
    have k2 : (!decide (("z" : Str).cps.toList < (⟨#[c]⟩ : Str).cps.toList)) = true := by
      rw [nz]
      show (!decide ([122] < [c])) = true
      simp [List.cons_lt_cons_iff]
      omega
    have hic : i < z.cps.size := (Array.getElem?_eq_some_iff.mp hc).1
    have hz8 : z.cps.size ≤ 8 := z8
    refine ⟨rfl, ?_⟩
    refine tYes_of ?_
    refine ⟨_, rfl, _, _, rfl, rfl, _, rfl, if_true_of k1 ?_⟩
    refine ⟨_, _, rfl, rfl, _, hb, small1000 (by rw [List.length_map]; omega), bs ++ [true], ?_, ?_, by rw [List.length_append, hl]; rfl, ?_⟩
    · intro b o e
      rw [upd_ne (ne_of_none e hD)]
      exact hs b o e
    · rw [upd_same, k2, List.map_append]; rfl
    · rw [List.all_append, ha]; rfl
  · rintro H' ⟨bs, hs, hb, hl, ha⟩
    refine ⟨D, bs, rfl, SqL.of hb, ?_⟩
    rw [ha]
    exact q H' hs
theorem ok_are_names (T : Tops w K mg) (G_is_name : FnOk P w K mg base CX0 1 T.a_is_name T.d_is_name ["value"] spIsName) :
    FnOk P w K mg base CX0 2 T.a_are_names T.d_are_names ["value", "least", "most"] (spAreNames K) := by
  refine T.F_are_names.ok sc_are_names (fun vs H Q E h => ?_) (fun cdv A outer s H vs Q E hr h => ?_)
  · obtain ⟨a, zs, l, m, rfl, _⟩ := h
    rfl
  obtain ⟨a, zs, l, m, rfl, hS, hN, hl, hm, h100, q⟩ := h
  refine ⟨_, (pss_cons (ps_if (PW.pt (pw_or (pt_not (pt_val (pe_callB call_isi rfl T.z_isinstance (by decide +kernel) (pa_cons (pv 0) (pa_cons (pe_bltn (v := .ty "tuple") rfl T.z_tuple (by decide +kernel) rfl) pa_nil))))) (pw_or1 (pt_not (pt_chain op_le op_le (pv 1) (pe_callB call_len rfl T.z_len PySem.boot_len (pa_cons (pv 0) pa_nil)) (pv 2)))))) (pss_one (ps_ret pe_bl)) pss_nil)
    (pss_one (ps_ret (pe_and (pe_callB (cr_all rfl) rfl T.z_all (by decide +kernel) (pa_cons (pe_lc (own := [("item", 3)]) (g := gName 3) (tt := tYes) rfl sc_are_names.nd (pi_tup (pv 0)) (blkOk_by (own := [("item", 3)]) (N := N_are_names) (sc := defScope s_are_names) (by decide +kernel)) (fun _ _ _ _ _ => (pg_name (i := 3) sc_are_names.nd rfl (Or.inl rfl))) (fun _ _ _ _ _ => pts_nil) (fun _ _ _ _ _ => (pe_call G_is_name (hr.mono (by omega)) rfl T.m_is_name T.F_is_name.kp T.b_is_name .nil pass0 (pa_cons (pv 3) pa_nil)))) pa_nil)) (pe_one (pe_cmpR op_eq (pe_lenSetT rfl rfl T.z_len rfl T.z_set (pv 0)) (pe_callB call_len rfl T.z_len PySem.boot_len (pa_cons (pv 0) pa_nil)) (nomark _))))))), ?_⟩
  refine ⟨_, rfl, .ref a, .ty "tuple", .type "tuple", .type "tuple", true, rfl, .ty _, ty_tup hS, kit_ty (by decide +kernel), true, rfl, iteF ?_⟩
  have e0 : (zs.map V.str).length = zs.length := List.length_map _
  refine ⟨_, rfl, _, rfl, .ref a, _, rfl, .inr ⟨_, hS, rfl⟩, _, _, rfl, rfl, _, rfl, ?_⟩
  have e1 : decide (l ≤ (((zs.map V.str).length : Nat) : Int)) = true := decide_eq_true (by omega)
  refine if_true_of e1 ?_
  have e2 : decide ((((zs.map V.str).length : Nat) : Int) ≤ m) = true := decide_eq_true (by omega)
  refine ⟨_, rfl, _, _, rfl, rfl, _, rfl, ?_⟩
  refine if_false_of (by rw [e2]; rfl) ?_
  refine ⟨_, rfl, a, rfl, ⟨_, hS⟩, fun D hD => lc_tup (K := K) (a := a) (xs := zs.map V.str) (fun i H' => ∃ bs : List Bool, Same H H' ∧ H' D = some (.lst (bs.map V.bl)) ∧ bs.length = i ∧ bs.all id = true)
    ⟨[], Same.new hD _, upd_same, rfl, rfl⟩ (fun i H' _ ⟨_, hs, _⟩ => SqT.same hs hS) ?_ ?_⟩
  · rintro i x H' hx ⟨bs, hs, hb, hl', ha⟩
    rw [List.getElem?_map] at hx
    obtain ⟨z, hz, rfl⟩ := Option.map_eq_some_iff.mp hx
    have hi : i < zs.length := (List.getElem?_eq_some_iff.mp hz).1
    refine ⟨rfl, ?_⟩
    refine tYes_of ?_
    refine ⟨_, rfl, z, rfl, hN.good z (List.mem_of_getElem? hz), fun H4 s4 => ⟨_, s4 _ _ hb, small1000 (by rw [List.length_map]; omega), bs ++ [true], ?_, by rw [upd_same, List.map_append]; rfl, by rw [List.length_append, hl']; rfl, by rw [List.all_append, ha]; rfl⟩⟩
    intro b o e
    rw [upd_ne (ne_of_none e hD)]
    exact s4 _ _ (hs b o e)
  · rintro H' ⟨bs, hs, hb, hl', ha⟩
    have hS' := SqT.same hs hS
    refine ⟨D, bs, rfl, SqL.of hb, _, rfl, ?_⟩
    refine if_true_of ha ?_
    refine ⟨_, rfl, a, zs, rfl, hS', by omega, _, rfl, .ref a, _, rfl, .inr ⟨_, hS', rfl⟩, rfl, ?_⟩
    have e3 : TdSet.dcnt zs zs.length = zs.length := TdSet.dcnt_nodup (Nat.le_refl _) (by rw [List.take_length]; exact hN.nd)
    have e4 : decide (V.int (TdSet.dcnt zs zs.length : Nat) = V.int (((zs.map V.str).length : Nat) : Int)) = true := by rw [e3, e0]; exact decide_eq_true rfl
    rw [e4]
    exact q H' hs
theorem ok_named_pairs (T : Tops w K mg) (G_is_name : FnOk P w K mg base CX0 1 T.a_is_name T.d_is_name ["value"] spIsName) :
    FnOk P w K mg base CX0 2 T.a_are_named_pairs T.d_are_named_pairs ["value", "most", "taken"] (spNamedPairs K) := by
  refine T.F_are_named_pairs.ok sc_are_named_pairs (fun vs H Q E h => ?_) (fun cdv A outer s H vs Q E hr h => ?_)
  · obtain ⟨v, tk, ps, ts, m, rfl, _⟩ := h
    rfl
  obtain ⟨v, tk, ps, ts, m, rfl, hT, hS, hN, hm, h100, t100, q⟩ := h
  obtain ⟨a, xs, rfl, hA, hl, hx⟩ := pairs_at hT
  refine ⟨_, (pss_cons (ps_if (PW.pt (pw_or (pt_not (pt_val (pe_callB call_isi rfl T.z_isinstance (by decide +kernel) (pa_cons (pv 0) (pa_cons (pe_bltn (v := .ty "tuple") rfl T.z_tuple (by decide +kernel) rfl) pa_nil))))) (pw_or1 (pt_cmpR op_gt (pe_callB call_len rfl T.z_len PySem.boot_len (pa_cons (pv 0) pa_nil)) (pv 1) (nomark _))))) (pss_one (ps_ret pe_bl)) pss_nil)
    (pss_cons (ps_set (i := 3) sc_are_named_pairs.nd rfl (Or.inl rfl) (pe_callTy call_list_of rfl T.z_list (by decide +kernel) (pa_cons (pv 2) pa_nil)))
    (pss_cons (ps_for PassesOwn.never rfl (pi_tup (pv 0)) (pg_name (i := 4) sc_are_named_pairs.nd rfl (Or.inl rfl)) (pss_cons (ps_if (PW.pt (pw_or (pt_not (pt_val (pe_callB call_isi rfl T.z_isinstance (by decide +kernel) (pa_cons (pv 4) (pa_cons (pe_bltn (v := .ty "tuple") rfl T.z_tuple (by decide +kernel) rfl) pa_nil))))) (pw_or1 (pt_cmpR op_ne (pe_callB call_len rfl T.z_len PySem.boot_len (pa_cons (pv 4) pa_nil)) pe_int (nomark _))))) (pss_one (ps_ret pe_bl)) pss_nil)
    (pss_cons (ps_if (PW.pt (pw_or (pt_not (pt_val (pe_call G_is_name (hr.mono (by omega)) rfl T.m_is_name T.F_is_name.kp T.b_is_name .nil pass0 (pa_cons (pe_ix ix_tup (pv 4) pe_int (fun _ _ => rfl)) pa_nil)))) (pw_or1 (pt_cmpR op_in_seq (pe_ix ix_tup (pv 4) pe_int (fun _ _ => rfl)) (pv 3) (by rfl))))) (pss_one (ps_ret pe_bl)) pss_nil)
    (pss_one (ps_expr (pe_bm PySem.F.plainAttrs_list PySem.F.slot_list_append PySem.F.type_list_append mt_append (pv 3) (pa_cons (pe_ix ix_tup (pv 4) pe_int (fun _ _ => rfl)) pa_nil)))))))
    (pss_one (ps_ret pe_bl))))), ?_⟩
  refine ⟨_, rfl, .ref a, .ty "tuple", .type "tuple", .type "tuple", true, rfl, .ty _, ty_tup hA, kit_ty (by decide +kernel), true, rfl, iteF ?_⟩
  refine ⟨_, rfl, .ref a, _, rfl, .inr ⟨_, hA, rfl⟩, _, rfl, _, _, rfl, rfl, _, rfl, ?_⟩
  have e1 : decide (m < ((xs.length : Nat) : Int)) = false := decide_eq_false (by omega)
  refine if_false_of e1 ?_
  refine ⟨_, rfl, tk, _, rfl, .inr hS, fun l hl0 => ?_⟩
  refine ⟨_, rfl, a, rfl, ⟨_, SqT.same (Same.new hl0 _) hA⟩, for_tup (K := K) (a := a) (xs := xs) (fun i σ H' => ∃ v4 : Option V, σ = [some (.ref a), some (.int m), some (.ref tk), some (.ref l), v4] ∧ Same H H' ∧ H' l = some (.lst ((ts ++ (ps.take i).map (·.1)).map V.str)))
    ⟨none, rfl, Same.new hl0 _, by simpa using upd_same⟩ (fun i σ H' _ ⟨_, _, hs, _⟩ => SqT.same hs hA) ?_ ?_⟩
  · rintro i x σ H' hi ⟨v4, rfl, hs, hL⟩
    obtain ⟨qq, b, vr, hq, rfl, hB, hR⟩ := hx i x hi
    have hB' := SqT.same hs hB
    have hips : i < ps.length := (List.getElem?_eq_some_iff.mp hq).1
    refine ⟨_, rfl, .ref b, .ty "tuple", .type "tuple", .type "tuple", true, rfl, .ty _, ty_tup hB', kit_ty (by decide +kernel), true, rfl, iteF ?_⟩
    refine ⟨_, rfl, .ref b, _, rfl, .inr ⟨_, hB', rfl⟩, rfl, _, rfl, ?_⟩
    refine if_false_of (by show (!decide (V.int ((2 : Nat) : Int) = V.int 2)) = false; decide +kernel) ?_
    have hmem : qq.1 ∈ ps.map (·.1) := List.mem_map.mpr ⟨qq, List.mem_of_getElem? hq, rfl⟩
    refine ⟨_, rfl, b, _, 0, _, rfl, rfl, hB', rfl, qq.1, rfl, hN.good _ (List.mem_append_right _ hmem), fun H3 s3 => ⟨true, rfl, iteF ?_⟩⟩
    have hB3 := SqT.same s3 hB'
    have hL3 := s3 _ _ hL
    refine ⟨_, rfl, b, _, 0, _, rfl, rfl, hB3, rfl, _, rfl, l, _, rfl, .inl (SqL.of hL3), rfl, L2.flat_strs _, _, rfl, ?_⟩
    have hnot : qq.1 ∉ ts ++ (ps.take i).map (·.1) := by
      have e : ts ++ ps.map (·.1) = (ts ++ (ps.take i).map (·.1)) ++ (ps.drop i).map (·.1) := by
        rw [List.append_assoc, ← List.map_append, List.take_append_drop]
      have nd := hN.nd
      rw [e] at nd
      intro hin
      refine (List.nodup_append.mp nd).2.2 _ hin qq.1 ?_ rfl
      refine List.mem_map.mpr ⟨qq, ?_, rfl⟩
      have : (ps.drop i)[0]? = some qq := by rw [List.getElem?_drop]; exact hq
      exact List.mem_of_getElem? this
    refine if_false_of (by show (inV _ _) = false; rw [inV_strs]; exact decide_eq_false hnot) ?_
    refine ⟨_, rfl, .inl ⟨rfl, _, SqL.of hL3⟩, _, rfl, b, _, 0, _, rfl, rfl, hB3, rfl, l, _, _, rfl, rfl, hL3, small1000 ?_, ?_⟩
    · rw [List.length_map, List.length_append, List.length_map, List.length_take]; omega
    · refine ⟨_, rfl, fun b o e => ?_, ?_⟩
      · rw [upd_ne (ne_of_none e hl0)]
        exact s3 _ _ (hs b o e)
      · rw [upd_same, take_more hq]
        simp
  · rintro σ H' ⟨v4, rfl, hs, hL⟩
    exact q H' hs
theorem ok_names_of (T : Tops w K mg) : FnOk P w K mg base CX0 1 T.a_names_of T.d_names_of ["pairs"] (spNamesOf K) := by
  refine T.F_names_of.ok sc_names_of (fun vs H Q E h => ?_) (fun cdv A outer s H vs Q E hr h => ?_)
  · obtain ⟨v, ps, rfl, _⟩ := h
    rfl
  obtain ⟨v, ps, rfl, hT, h100, q⟩ := h
  obtain ⟨a, xs, rfl, hA, hl, hx⟩ := pairs_at hT
  refine ⟨_, (pss_one (ps_ret (pe_callTy call_tuple_of rfl T.z_tuple (by decide +kernel) (pa_cons (pe_lc (own := [("name", 1), ("_", 2)]) (g := gTup K 2 (gCons (gName 1) (gCons (gName 2) gNil))) (tt := tYes) rfl sc_names_of.nd (pi_tup (pv 0)) (blkOk_by (own := [("name", 1), ("_", 2)]) (N := N_names_of) (sc := defScope s_names_of) (by decide +kernel)) (fun _ _ _ _ _ => (pg_tup rfl (pgs_cons (pg_name (i := 1) sc_names_of.nd rfl (Or.inl rfl)) (pgs_cons (pg_name (i := 2) sc_names_of.nd rfl (Or.inl rfl)) pgs_nil)))) (fun _ _ _ _ _ => pts_nil) (fun _ _ _ _ _ => (pv 1))) pa_nil)))), ?_⟩
  refine ⟨_, rfl, a, rfl, ⟨_, hA⟩, fun D hD => lc_tup (K := K) (a := a) (xs := xs) (fun i H' => Same H H' ∧ H' D = some (.lst ((ps.take i).map fun q => V.str q.1)))
    ⟨Same.new hD _, by simpa using upd_same⟩ (fun i H' _ ⟨hs, _⟩ => SqT.same hs hA) ?_ ?_⟩
  · rintro i x H' hi ⟨hs, hb⟩
    obtain ⟨qq, b, vr, hq, rfl, hB, hR⟩ := hx i x hi
    have hB' := SqT.same hs hB
    have hips : i < ps.length := (List.getElem?_eq_some_iff.mp hq).1
    refine ⟨b, _, rfl, hB', rfl, _, _, rfl, _, _, rfl, rfl, rfl, ?_⟩
    refine tYes_of ?_
    refine ⟨_, rfl, _, hb, small1000 (by rw [List.length_map, List.length_take]; omega), fun c o e => ?_, ?_⟩
    · rw [upd_ne (ne_of_none e hD)]
      exact hs c o e
    · rw [upd_same, take_more hq, List.map_append]; rfl
  · rintro H' ⟨hs, hb⟩
    rw [hl, List.take_length] at hb
    refine ⟨D, _, rfl, .inl ⟨SqL.of hb, fun p hp => q p _ (hs.trans (Same.new hp _)) (SqT.of upd_same)⟩⟩
end
end K01
namespace K01
open PySem PySem.Spec PyProof.Rows L2 Td
/-! ### the rows of a body that is right -/
def kdS (eff : Bool) : Str := if eff then "effects" else "derived"
def scF (kd : Str) (aw as ar : Addr) : List (Str × V) := [("kind", .str kd), ("words", .ref aw), ("sources", .ref as), ("readable", .ref ar)]
theorem scF_put (kd : Str) (aw as ar : Addr) : putF "readable" (.ref ar) (putF "sources" (.ref as) (putF "words" (.ref aw) (putF "kind" (.str kd) []))) = scF kd aw as ar := by kernel_rfl
theorem scF_kind (kd : Str) (aw as ar : Addr) : (scF kd aw as ar).lookup ("kind" : Str) = some (.str kd) := by kernel_rfl
theorem scF_words (kd : Str) (aw as ar : Addr) : (scF kd aw as ar).lookup ("words" : Str) = some (.ref aw) := by kernel_rfl
theorem scF_sources (kd : Str) (aw as ar : Addr) : (scF kd aw as ar).lookup ("sources" : Str) = some (.ref as) := by kernel_rfl
theorem scF_readable (kd : Str) (aw as ar : Addr) : (scF kd aw as ar).lookup ("readable" : Str) = some (.ref ar) := by kernel_rfl
structure ScopeAt (K : PySem.W.Frag) (H : Hp) (C sa : Addr) (S : Sc) : Prop where
  ex : ∃ (dx aw as ar : Addr), H sa = some (.ins C dx (scF (kdS S.eff) aw as ar)) ∧ SqT K H aw (S.words.map V.str) ∧ SqT K H as (S.sources.map V.str) ∧ SqT K H ar (S.readable.map V.str)
theorem ScopeAt.same {K : PySem.W.Frag} {H H' : Hp} {C sa : Addr} {S : Sc} (h : ScopeAt K H C sa S) (s : Same H H') : ScopeAt K H' C sa S := by
  obtain ⟨dx, aw, as, ar, e, h1, h2, h3⟩ := h.ex
  exact ⟨dx, aw, as, ar, s _ _ e, SqT.same s h1, SqT.same s h2, SqT.same s h3⟩
def spScope (C : Addr) : Sp := fun vs H Q _ => ∃ (x dx aw as ar : Addr) (kd : Str), vs = [.ref x, .str kd, .ref aw, .ref as, .ref ar] ∧ H x = some (.ins C dx []) ∧ Q .non (upd H x (.ins C dx (scF kd aw as ar)))
def spRead (K : PySem.W.Frag) (C : Addr) : Sp := fun vs H Q _ => ∃ (v : V) (sa : Addr) (S : Sc) (pk : Bool) (c s : Str), vs = [v, .ref sa] ∧ Dp K H v (rowD (.rd pk c s)) ∧ ScopeAt K H C sa S ∧ c ∈ S.readable ∧ isNm s = true ∧ ∀ H', Same H H' → Q (.bl true) H'
def spPut (K : PySem.W.Frag) (C : Addr) : Sp := fun vs H Q _ => ∃ (v : V) (sa : Addr) (S : Sc) (s u : Str), vs = [v, .ref sa] ∧ Dp K H v (rowD (.put s u)) ∧ ScopeAt K H C sa S ∧ u ∈ S.words ∧ isNm s = true ∧ ∀ H', Same H H' → Q (.bl true) H'
def spIf (K : PySem.W.Frag) (C : Addr) : Sp := fun vs H Q _ => ∃ (v : V) (sa : Addr) (S : Sc) (s u : Str) (y n : List Td.Row), vs = [v, .ref sa] ∧ Dp K H v (rowD (.ite s u y n)) ∧ ScopeAt K H C sa S ∧ u ∈ S.words ∧ isNm s = true ∧ ∀ H', Same H H' → Q (.bl true) H'
def spSlot (K : PySem.W.Frag) (C : Addr) : Sp := fun vs H Q _ => ∃ (v : V) (sa : Addr) (S : Sc) (g : Bool) (s : Str), vs = [v, .ref sa] ∧ Dp K H v (rowD (if g then .give s else .say s)) ∧ ScopeAt K H C sa S ∧ isNm s = true ∧ ∀ H', Same H H' → Q (.bl true) H'
def spWrite (K : PySem.W.Frag) (C : Addr) : Sp := fun vs H Q _ => ∃ (v : V) (sa : Addr) (S : Sc) (c s : Str), vs = [v, .ref sa] ∧ Dp K H v (rowD (.wr c s)) ∧ ScopeAt K H C sa S ∧ c ∈ S.sources ∧ isNm s = true ∧ ∀ H', Same H H' → Q (.bl true) H'
theorem in_of {z : Str} {ws : List Str} (h : z ∈ ws) : inV (.str z) (ws.map V.str) = true := by rw [inV_strs]; exact decide_eq_true h
section
variable {P : Program} {w : World} {K : PySem.W.Frag} {mg : Str → Option Value} {base : Heap}
theorem ok_scope (T : Tops w K mg) : FnOk P w K mg base CX0 1 T.a_Scope_init T.d_Scope_init ["self", "kind", "words", "sources", "readable"] (spScope T.c_Scope) := by
  refine T.F_Scope_init.ok sc_Scope_init (fun vs H Q E h => ?_) (fun cdv A outer s H vs Q E hr h => ?_)
  · obtain ⟨x, dx, aw, as, ar, kd, rfl, _⟩ := h
    rfl
  obtain ⟨x, dx, aw, as, ar, kd, rfl, hx, q⟩ := h
  refine ⟨_, (pss_cons (ps_fld (pv 0) (pv 1) rfl)
    (pss_cons (ps_fld (pv 0) (pv 2) rfl)
    (pss_cons (ps_fld (pv 0) (pv 3) rfl)
    (pss_one (ps_fld (pv 0) (pv 4) rfl))))), ?_⟩
  refine ⟨_, rfl, _, rfl, x, T.c_Scope, dx, [], rfl, hx, T.l_Scope, T.n_Scope_kind, by show 0 < 1000; decide, ?_⟩
  refine ⟨_, rfl, _, rfl, x, T.c_Scope, dx, _, rfl, upd_same, T.l_Scope, T.n_Scope_words, by show 1 < 1000; decide, ?_⟩
  rw [upd_upd]
  refine ⟨_, rfl, _, rfl, x, T.c_Scope, dx, _, rfl, upd_same, T.l_Scope, T.n_Scope_sources, Nat.lt_of_le_of_lt (m := 2) (Nat.le_of_eq (by kernel_rfl)) (by decide), ?_⟩
  rw [upd_upd]
  refine ⟨_, rfl, _, rfl, x, T.c_Scope, dx, _, rfl, upd_same, T.l_Scope, T.n_Scope_readable, Nat.lt_of_le_of_lt (m := 3) (Nat.le_of_eq (by kernel_rfl)) (by decide), ?_⟩
  rw [upd_upd, scF_put]
  exact q
theorem ok_read (T : Tops w K mg) (G_is_name : FnOk P w K mg base CX0 1 T.a_is_name T.d_is_name ["value"] spIsName) : FnOk P w K mg base CX0 2 T.a_is_read_row T.d_is_read_row ["row", "scope"] (spRead K T.c_Scope) := by
  refine T.F_is_read_row.ok sc_is_read_row (fun vs H Q E h => ?_) (fun cdv A outer s H vs Q E hr h => ?_)
  · obtain ⟨v, sa, S, pk, c, s, rfl, _⟩ := h
    rfl
  obtain ⟨v, sa, S, pk, c, sl, rfl, hD, hSc, hc, hs, q⟩ := h
  obtain ⟨a, rfl, hS⟩ := rd_at hD
  obtain ⟨dx, aw, as, ar, e, h1, h2, h3⟩ := hSc.ex
  refine ⟨_, (pss_one (ps_ret (pe_and (pe_cmpR op_eq (pe_callB call_len rfl T.z_len PySem.boot_len (pa_cons (pv 0) pa_nil)) pe_int (nomark _)) (pe_and (pe_cmpR op_in_seq (pe_ix ix_tup (pv 0) pe_int (fun _ _ => rfl)) (pe_fld (pv 1) rfl) (by rfl)) (pe_one (pe_call G_is_name (hr.mono (by omega)) rfl T.m_is_name T.F_is_name.kp T.b_is_name .nil pass0 (pa_cons (pe_ix ix_tup (pv 0) pe_int (fun _ _ => rfl)) pa_nil))))))), ?_⟩
  refine ⟨_, rfl, .ref a, _, rfl, .inr ⟨_, hS, rfl⟩, rfl, _, rfl, if_true_of (by show decide (V.int ((3 : Nat) : Int) = V.int 3) = true; decide +kernel) ?_⟩
  refine ⟨_, rfl, a, _, 1, _, rfl, rfl, hS, rfl, _, rfl, sa, _, dx, _, _, rfl, e, T.l_Scope, T.n_Scope_readable, scF_readable .., ar, _, rfl, .inr h3, rfl, L2.flat_strs _, _, rfl, if_true_of (in_of hc) ?_⟩
  exact ⟨_, rfl, a, _, 2, _, rfl, rfl, hS, rfl, sl, rfl, hs, q⟩
theorem ok_put (T : Tops w K mg) (G_is_name : FnOk P w K mg base CX0 1 T.a_is_name T.d_is_name ["value"] spIsName) : FnOk P w K mg base CX0 2 T.a_is_put_row T.d_is_put_row ["row", "scope"] (spPut K T.c_Scope) := by
  refine T.F_is_put_row.ok sc_is_put_row (fun vs H Q E h => ?_) (fun cdv A outer s H vs Q E hr h => ?_)
  · obtain ⟨v, sa, S, s, u, rfl, _⟩ := h
    rfl
  obtain ⟨v, sa, S, sl, u, rfl, hD, hSc, hc, hs, q⟩ := h
  obtain ⟨a, rfl, hS⟩ := put_at hD
  refine ⟨_, (pss_one (ps_ret (pe_and (pe_cmpR op_eq (pe_callB call_len rfl T.z_len PySem.boot_len (pa_cons (pv 0) pa_nil)) pe_int (nomark _)) (pe_and (pe_call G_is_name (hr.mono (by omega)) rfl T.m_is_name T.F_is_name.kp T.b_is_name .nil pass0 (pa_cons (pe_ix ix_tup (pv 0) pe_int (fun _ _ => rfl)) pa_nil)) (pe_one (pe_cmpR op_in_seq (pe_ix ix_tup (pv 0) pe_int (fun _ _ => rfl)) (pe_fld (pv 1) rfl) (by rfl))))))), ?_⟩
  refine ⟨_, rfl, .ref a, _, rfl, .inr ⟨_, hS, rfl⟩, rfl, _, rfl, if_true_of (by show decide (V.int ((3 : Nat) : Int) = V.int 3) = true; decide +kernel) ?_⟩
  refine ⟨_, rfl, a, _, 1, _, rfl, rfl, hS, rfl, sl, rfl, hs, fun H1 s1 => ⟨_, rfl, iteT ?_⟩⟩
  obtain ⟨dx, aw, as, ar, e, h1, h2, h3⟩ := (hSc.same s1).ex
  refine ⟨_, rfl, a, _, 2, _, rfl, rfl, SqT.same s1 hS, rfl, _, rfl, sa, _, dx, _, _, rfl, e, T.l_Scope, T.n_Scope_words, scF_words .., aw, _, rfl, .inr h1, rfl, L2.flat_strs _, ?_⟩
  show Q (.bl (inV _ _)) H1
  rw [in_of hc]
  exact q H1 s1
theorem ok_slot (T : Tops w K mg) (G_is_name : FnOk P w K mg base CX0 1 T.a_is_name T.d_is_name ["value"] spIsName) : FnOk P w K mg base CX0 2 T.a_is_slot_row T.d_is_slot_row ["row", "scope"] (spSlot K T.c_Scope) := by
  refine T.F_is_slot_row.ok sc_is_slot_row (fun vs H Q E h => ?_) (fun cdv A outer s H vs Q E hr h => ?_)
  · obtain ⟨v, sa, S, g, s, rfl, _⟩ := h
    rfl
  obtain ⟨v, sa, S, g, sl, rfl, hD, hSc, hs, q⟩ := h
  obtain ⟨a, tg, rfl, hS⟩ : ∃ (a : Addr) (tg : Str), v = .ref a ∧ SqT K H a [.str tg, .str sl] := by
    cases g with
    | true => obtain ⟨a, e, h⟩ := give_at hD; exact ⟨a, _, e, h⟩
    | false => obtain ⟨a, e, h⟩ := say_at hD; exact ⟨a, _, e, h⟩
  refine ⟨_, (pss_one (ps_ret (pe_and (pe_cmpR op_eq (pe_callB call_len rfl T.z_len PySem.boot_len (pa_cons (pv 0) pa_nil)) pe_int (nomark _)) (pe_one (pe_call G_is_name (hr.mono (by omega)) rfl T.m_is_name T.F_is_name.kp T.b_is_name .nil pass0 (pa_cons (pe_ix ix_tup (pv 0) pe_int (fun _ _ => rfl)) pa_nil)))))), ?_⟩
  refine ⟨_, rfl, .ref a, _, rfl, .inr ⟨_, hS, rfl⟩, rfl, _, rfl, if_true_of (by show decide (V.int ((2 : Nat) : Int) = V.int 2) = true; decide +kernel) ?_⟩
  exact ⟨_, rfl, a, _, 1, _, rfl, rfl, hS, rfl, sl, rfl, hs, q⟩
theorem ok_write (T : Tops w K mg) (G_is_name : FnOk P w K mg base CX0 1 T.a_is_name T.d_is_name ["value"] spIsName) : FnOk P w K mg base CX0 2 T.a_is_write_row T.d_is_write_row ["row", "scope"] (spWrite K T.c_Scope) := by
  refine T.F_is_write_row.ok sc_is_write_row (fun vs H Q E h => ?_) (fun cdv A outer s H vs Q E hr h => ?_)
  · obtain ⟨v, sa, S, c, s, rfl, _⟩ := h
    rfl
  obtain ⟨v, sa, S, c, sl, rfl, hD, hSc, hc, hs, q⟩ := h
  obtain ⟨a, rfl, hS⟩ := wr_at hD
  obtain ⟨dx, aw, as, ar, e, h1, h2, h3⟩ := hSc.ex
  refine ⟨_, (pss_one (ps_ret (pe_and (pe_cmpR op_eq (pe_callB call_len rfl T.z_len PySem.boot_len (pa_cons (pv 0) pa_nil)) pe_int (nomark _)) (pe_and (pe_cmpR op_in_seq (pe_ix ix_tup (pv 0) pe_int (fun _ _ => rfl)) (pe_fld (pv 1) rfl) (by rfl)) (pe_one (pe_call G_is_name (hr.mono (by omega)) rfl T.m_is_name T.F_is_name.kp T.b_is_name .nil pass0 (pa_cons (pe_ix ix_tup (pv 0) pe_int (fun _ _ => rfl)) pa_nil))))))), ?_⟩
  refine ⟨_, rfl, .ref a, _, rfl, .inr ⟨_, hS, rfl⟩, rfl, _, rfl, if_true_of (by show decide (V.int ((3 : Nat) : Int) = V.int 3) = true; decide +kernel) ?_⟩
  refine ⟨_, rfl, a, _, 1, _, rfl, rfl, hS, rfl, _, rfl, sa, _, dx, _, _, rfl, e, T.l_Scope, T.n_Scope_sources, scF_sources .., as, _, rfl, .inr h2, rfl, L2.flat_strs _, _, rfl, if_true_of (in_of hc) ?_⟩
  exact ⟨_, rfl, a, _, 2, _, rfl, rfl, hS, rfl, sl, rfl, hs, q⟩
theorem ok_if (T : Tops w K mg) (G_is_name : FnOk P w K mg base CX0 1 T.a_is_name T.d_is_name ["value"] spIsName) : FnOk P w K mg base CX0 2 T.a_is_if_row T.d_is_if_row ["row", "scope"] (spIf K T.c_Scope) := by
  refine T.F_is_if_row.ok sc_is_if_row (fun vs H Q E h => ?_) (fun cdv A outer s H vs Q E hr h => ?_)
  · obtain ⟨v, sa, S, s, u, y, n, rfl, _⟩ := h
    rfl
  obtain ⟨v, sa, S, sl, u, y, n, rfl, hD, hSc, hc, hs, q⟩ := h
  obtain ⟨a, vy, vn, rfl, hS, hy, hn⟩ := ite_at hD
  refine ⟨_, (pss_cons (ps_if (PW.pt (pw_or (pt_cmpR op_ne (pe_callB call_len rfl T.z_len PySem.boot_len (pa_cons (pv 0) pa_nil)) pe_int (nomark _)) (pw_or (pt_not (pt_val (pe_call G_is_name (hr.mono (by omega)) rfl T.m_is_name T.F_is_name.kp T.b_is_name .nil pass0 (pa_cons (pe_ix ix_tup (pv 0) pe_int (fun _ _ => rfl)) pa_nil)))) (pw_or1 (pt_cmpR op_notIn_seq (pe_ix ix_tup (pv 0) pe_int (fun _ _ => rfl)) (pe_fld (pv 1) rfl) (by rfl)))))) (pss_one (ps_ret pe_bl)) pss_nil)
    (pss_one (ps_ret (pe_and (pe_callB call_isi rfl T.z_isinstance (by decide +kernel) (pa_cons (pe_ix ix_tup (pv 0) pe_int (fun _ _ => rfl)) (pa_cons (pe_bltn (v := .ty "tuple") rfl T.z_tuple (by decide +kernel) rfl) pa_nil))) (pe_one (pe_callB call_isi rfl T.z_isinstance (by decide +kernel) (pa_cons (pe_ix ix_tup (pv 0) pe_int (fun _ _ => rfl)) (pa_cons (pe_bltn (v := .ty "tuple") rfl T.z_tuple (by decide +kernel) rfl) pa_nil)))))))), ?_⟩
  refine ⟨_, rfl, .ref a, _, rfl, .inr ⟨_, hS, rfl⟩, rfl, _, rfl, if_false_of (by show (!decide (V.int ((5 : Nat) : Int) = V.int 5)) = false; decide +kernel) ?_⟩
  refine ⟨_, rfl, a, _, 1, _, rfl, rfl, hS, rfl, sl, rfl, hs, fun H1 s1 => ⟨_, rfl, iteF ?_⟩⟩
  obtain ⟨dx, aw, as, ar, e, h1, h2, h3⟩ := (hSc.same s1).ex
  have hS1 := SqT.same s1 hS
  refine ⟨_, rfl, a, _, 2, _, rfl, rfl, hS1, rfl, _, rfl, sa, _, dx, _, _, rfl, e, T.l_Scope, T.n_Scope_words, scF_words .., aw, _, rfl, .inr h1, rfl, L2.flat_strs _, _, rfl, if_false_of (by show (!inV _ _) = false; rw [in_of hc]; rfl) ?_⟩
  obtain ⟨ay, xy, rfl, hy1, _⟩ := Dp.tup_inv (Dp.same s1 hy)
  obtain ⟨an, xn, rfl, hn1, _⟩ := Dp.tup_inv (Dp.same s1 hn)
  refine ⟨_, rfl, a, _, 3, _, rfl, rfl, hS1, rfl, .ref ay, .ty "tuple", .type "tuple", .type "tuple", true, rfl, .ty _, ty_tup hy1, kit_ty (by decide +kernel), _, rfl, iteT ?_⟩
  exact ⟨_, rfl, a, _, 4, _, rfl, rfl, hS1, rfl, .ref an, .ty "tuple", .type "tuple", .type "tuple", true, rfl, .ty _, ty_tup hn1, kit_ty (by decide +kernel), q H1 s1⟩
/-- which function judges a row -/
def fitF (T : Tops w K mg) : Td.Row → Addr
  | .rd .. => T.a_is_read_row
  | .put .. => T.a_is_put_row
  | .give .. => T.a_is_slot_row
  | .say .. => T.a_is_slot_row
  | .wr .. => T.a_is_write_row
  | .ite .. => T.a_is_if_row
def spCheckOf (T : Tops w K mg) : Sp := fun vs H Q _ => ∃ (S : Sc) (dep : Nat) (r : Td.Row), vs = [.str (kdS S.eff), .str (rowTag r)] ∧ okR S dep r ∧ Q (.ref (fitF T r)) H
theorem ok_check_of (T : Tops w K mg) : FnOk P w K mg base CX0 1 T.a_check_of T.d_check_of ["kind", "form"] (spCheckOf T) := by
  refine T.F_check_of.ok sc_check_of (fun vs H Q E h => ?_) (fun cdv A outer s H vs Q E hr h => ?_)
  · obtain ⟨S, dep, r, rfl, _⟩ := h
    rfl
  obtain ⟨S, dep, r, rfl, hok, q⟩ := h
  refine ⟨_, (pss_cons (ps_if (pt_cmpR op_eq (pv 0) pe_str (nomark _)) (pss_one (ps_ret (pe_kget (pe_glob (v := .ref T.a_DERIVED_FORMS) rfl T.c_DERIVED_FORMS rfl) (pv 1) ⟨rfl, rfl, rfl, rfl⟩))) pss_nil)
    (pss_one (ps_ret (pe_kget (pe_glob (v := .ref T.a_EFFECT_FORMS) rfl T.c_EFFECT_FORMS rfl) (pv 1) ⟨rfl, rfl, rfl, rfl⟩)))), ?_⟩
  refine ⟨_, rfl, rfl, _, rfl, ?_⟩
  obtain ⟨eff, ws, so, rd⟩ := S
  cases eff with
  | false =>
    refine if_true_of (by show decide (V.str "derived" = V.str "derived") = true; decide +kernel) ?_
    refine ⟨T.a_DERIVED_FORMS, rfl, T.w_DERIVED_FORMS, _, rfl, _, rfl, .inl ⟨_, ?_, q⟩⟩
    cases r with
    | rd pk c s =>
      unfold okR at hok
      cases pk with
      | false => exact T.w_DERIVED_FORMS_read
      | true => exact nomatch hok.1 rfl
    | put s u => exact T.w_DERIVED_FORMS_put
    | give s => exact T.w_DERIVED_FORMS_give
    | say s => unfold okR at hok; exact nomatch hok.1
    | wr c s => unfold okR at hok; exact nomatch hok.1
    | ite s u y n => exact T.w_DERIVED_FORMS_if
  | true =>
    refine if_false_of (by show decide (V.str "effects" = V.str "derived") = false; decide +kernel) ?_
    refine ⟨T.a_EFFECT_FORMS, rfl, T.w_EFFECT_FORMS, _, rfl, _, rfl, .inl ⟨_, ?_, q⟩⟩
    cases r with
    | rd pk c s =>
      cases pk with
      | false => exact T.w_EFFECT_FORMS_read
      | true => exact T.w_EFFECT_FORMS_peek
    | put s u => exact T.w_EFFECT_FORMS_put
    | give s => unfold okR at hok; exact nomatch hok.1
    | say s => exact T.w_EFFECT_FORMS_say
    | wr c s => exact T.w_EFFECT_FORMS_write
    | ite s u y n => exact T.w_EFFECT_FORMS_if
end
end K01
namespace K01
open PySem PySem.Spec PyProof.Rows L2 Td
def fitS (K : PySem.W.Frag) {w : World} {mg : Str → Option Value} (T : Tops w K mg) : Addr → Sp → Prop := fun f sp =>
  (f = T.a_is_read_row ∧ sp = spRead K T.c_Scope) ∨ (f = T.a_is_put_row ∧ sp = spPut K T.c_Scope) ∨ (f = T.a_is_slot_row ∧ sp = spSlot K T.c_Scope) ∨ (f = T.a_is_write_row ∧ sp = spWrite K T.c_Scope) ∨ (f = T.a_is_if_row ∧ sp = spIf K T.c_Scope)
def spValid (K : PySem.W.Frag) (C : Addr) : Sp := fun vs H Q _ => ∃ (v : V) (sa : Addr) (S : Sc) (dep : Nat) (r : Td.Row), vs = [v, .ref sa, .int (dep : Nat)] ∧ Dp K H v (rowD r) ∧ ScopeAt K H C sa S ∧ okR S dep r ∧ ∀ H', Same H H' → Q (.bl true) H'
def spFirst (K : PySem.W.Frag) (C : Addr) (n : Nat) : Sp := fun vs H Q _ => ∃ (v : V) (sa b : Addr) (bs : List V) (S : Sc) (dep : Nat) (rs : List Td.Row), vs = [v, .ref sa, .ref b, .int (dep : Nat)] ∧ Dp K H v (.tuple (rowsD rs)) ∧ ScopeAt K H C sa S ∧
  SqT K H b bs ∧ bs.length ≤ 2 + 2 * dep ∧ bs ≠ [] ∧ okRs S dep rs ∧ dep ≤ 4 ∧ 5 ≤ dep + n ∧ ∀ H', Same H H' → Q .non H'
def spPaths (K : PySem.W.Frag) (n : Nat) : Sp := fun vs H Q _ => ∃ (v : V) (b : Addr) (bs : List V) (S : Sc) (dep : Nat) (rs : List Td.Row), vs = [v, .ref b] ∧ Dp K H v (.tuple (rowsD rs)) ∧
  SqT K H b bs ∧ bs.length ≤ 2 + 2 * dep ∧ bs ≠ [] ∧ okRs S dep rs ∧ cnts rs ≤ 100 ∧ dep ≤ 4 ∧ 5 ≤ dep + n ∧ ∀ (p : Addr) (xs : List V) H', Same H H' → H p = none → H' p = some (.lst xs) → xs.length = cnts rs → Q (.ref p) H'
def spBody (K : PySem.W.Frag) (C : Addr) : Sp := fun vs H Q _ => ∃ (v : V) (sa : Addr) (S : Sc) (rs : List Td.Row) (i : Int), vs = [v, .ref sa, .int i] ∧ Dp K H v (.tuple (rowsD rs)) ∧ ScopeAt K H C sa S ∧ okRs S 1 rs ∧ cnts rs ≤ 16 ∧
  ∀ H', Same H H' → Q .non H'
section
variable {P : Program} {w : World} {K : PySem.W.Frag} {mg : Str → Option Value} {base : Heap}
theorem fit_held (T : Tops w K mg)
    (G1 : FnOk P w K mg base CX0 2 T.a_is_read_row T.d_is_read_row ["row", "scope"] (spRead K T.c_Scope))
    (G2 : FnOk P w K mg base CX0 2 T.a_is_put_row T.d_is_put_row ["row", "scope"] (spPut K T.c_Scope))
    (G3 : FnOk P w K mg base CX0 2 T.a_is_slot_row T.d_is_slot_row ["row", "scope"] (spSlot K T.c_Scope))
    (G4 : FnOk P w K mg base CX0 2 T.a_is_write_row T.d_is_write_row ["row", "scope"] (spWrite K T.c_Scope))
    (G5 : FnOk P w K mg base CX0 2 T.a_is_if_row T.d_is_if_row ["row", "scope"] (spIf K T.c_Scope)) : ∀ f sp, fitS K T f sp → Held P w K mg base 2 f sp := by
  rintro f sp (⟨rfl, rfl⟩ | ⟨rfl, rfl⟩ | ⟨rfl, rfl⟩ | ⟨rfl, rfl⟩ | ⟨rfl, rfl⟩)
  · exact ⟨_, _, G1, T.F_is_read_row.kp, T.b_is_read_row⟩
  · exact ⟨_, _, G2, T.F_is_put_row.kp, T.b_is_put_row⟩
  · exact ⟨_, _, G3, T.F_is_slot_row.kp, T.b_is_slot_row⟩
  · exact ⟨_, _, G4, T.F_is_write_row.kp, T.b_is_write_row⟩
  · exact ⟨_, _, G5, T.F_is_if_row.kp, T.b_is_if_row⟩
theorem ok_valid (T : Tops w K mg) (hA : ∀ f sp, fitS K T f sp → Held P w K mg base 2 f sp)
    (G_check_of : FnOk P w K mg base CX0 1 T.a_check_of T.d_check_of ["kind", "form"] (spCheckOf T)) :
    FnOk P w K mg base CX0 3 T.a_is_valid_row T.d_is_valid_row ["row", "scope", "depth"] (spValid K T.c_Scope) := by
  refine T.F_is_valid_row.ok sc_is_valid_row (fun vs H Q E h => ?_) (fun cdv A outer s H vs Q E hr h => ?_)
  · obtain ⟨v, sa, S, dep, r, rfl, _⟩ := h
    rfl
  obtain ⟨v, sa, S, dep, r, rfl, hD, hSc, ok, q⟩ := h
  obtain ⟨a, xs, rfl, hS, h0⟩ := row_at hD
  obtain ⟨dx, aw, as, ar, e, h1, h2, h3⟩ := hSc.ex
  refine ⟨_, (pss_cons (ps_if (PW.pt (pw_or (pt_not (pt_val (pe_callB call_isi rfl T.z_isinstance (by decide +kernel) (pa_cons (pv 0) (pa_cons (pe_bltn (v := .ty "tuple") rfl T.z_tuple (by decide +kernel) rfl) pa_nil))))) (pw_or (pt_cmpR op_eq (pe_callB call_len rfl T.z_len PySem.boot_len (pa_cons (pv 0) pa_nil)) pe_int (nomark _)) (pw_or1 (pt_not (pt_val (pe_callB call_isi rfl T.z_isinstance (by decide +kernel) (pa_cons (pe_ix ix_tup (pv 0) pe_int (fun _ _ => rfl)) (pa_cons (pe_bltn (v := .ty "str") rfl T.z_str (by decide +kernel) rfl) pa_nil))))))))) (pss_one (ps_ret pe_bl)) pss_nil)
    (C8.pss_cut (ps_if (PW.pt (pw_and (pt_cmpR op_eq (pe_ix ix_tup (pv 0) pe_int (fun _ _ => rfl)) pe_str (nomark _)) (pw_and1 (pt_cmpR op_gt (pv 2) (pe_glob (v := .int 3) rfl T.c_DEEPEST_IF ⟨_, rfl⟩) (nomark _))))) (pss_one (ps_ret pe_bl)) pss_nil)
    (pss_cons (ps_set (i := 3) sc_is_valid_row.nd rfl (Or.inl rfl) (pe_call G_check_of (hr.mono (by omega)) rfl T.m_check_of T.F_check_of.kp T.b_check_of .nil pass0 (pa_cons (pe_fld (pv 1) rfl) (pa_cons (pe_ix ix_tup (pv 0) pe_int (fun _ _ => rfl)) pa_nil))))
    (pss_one (ps_ret (pe_and (pe_cmpR op_notN (pv 3) pe_non (nomark _)) (pe_one (pe_callR (i := 3) (S := fitS K T) hA (hr.mono (by omega)) rfl (Or.inl rfl) (pa_cons (pv 0) (pa_cons (pv 1) pa_nil)))))))))), ?_⟩
  have hx : 0 < xs.length := (List.getElem?_eq_some_iff.mp h0).1
  have a0 : atI xs 0 = some (.str (rowTag r)) := atI_nat (j := 0) h0
  refine ⟨_, rfl, .ref a, .ty "tuple", .type "tuple", .type "tuple", true, rfl, .ty _, ty_tup hS, kit_ty (by decide +kernel), true, rfl, iteF ?_⟩
  refine ⟨_, rfl, .ref a, _, rfl, .inr ⟨_, hS, rfl⟩, rfl, _, rfl, if_false_of (decide_eq_false (fun h => by injection h; omega)) ?_⟩
  refine ⟨_, rfl, a, _, 0, _, rfl, rfl, hS, a0, .str (rowTag r), .ty "str", .type "str", .type "str", true, rfl, .ty _, .base (.str _), kit_ty (by decide +kernel), true, rfl, if_false_of rfl ?_⟩
  refine ⟨fun σ' H' => H' = H ∧ σ' = [some (.ref a), some (.ref sa), some (.int (dep : Nat)), none], ?_, ?_⟩
  · refine ⟨_, rfl, a, _, 0, _, rfl, rfl, hS, a0, rfl, _, rfl, ?_⟩
    cases hi : isIte r with
    | false => exact if_false_of ((tag_if r).trans hi) (iteF ⟨rfl, rfl⟩)
    | true =>
      refine if_true_of ((tag_if r).trans hi) ?_
      have h3' : dep ≤ 3 := by
        cases r with
        | ite s u y n => unfold okR at ok; exact ok.1
        | _ => cases hi
      refine ⟨_, rfl, _, _, rfl, rfl, _, rfl, if_false_of (decide_eq_false (by omega)) ⟨rfl, rfl⟩⟩
  rintro σ' H' ⟨rfl, rfl⟩
  refine ⟨_, rfl, sa, _, dx, _, _, rfl, e, T.l_Scope, T.n_Scope_kind, scF_kind .., _, rfl, a, _, 0, _, rfl, rfl, hS, a0, S, dep, r, rfl, ok, ?_⟩
  refine ⟨_, rfl, rfl, _, rfl, if_true_of (by rfl) ?_⟩
  cases r with
  | rd pk c s => unfold okR at ok; exact ⟨_, _, rfl, .inl ⟨rfl, rfl⟩, _, rfl, _, rfl, _, sa, S, pk, c, s, rfl, hD, hSc, ok.2.1, ok.2.2, q⟩
  | put s u => unfold okR at ok; exact ⟨_, _, rfl, .inr (.inl ⟨rfl, rfl⟩), _, rfl, _, rfl, _, sa, S, s, u, rfl, hD, hSc, ok.2, ok.1, q⟩
  | give s => unfold okR at ok; exact ⟨_, _, rfl, .inr (.inr (.inl ⟨rfl, rfl⟩)), _, rfl, _, rfl, _, sa, S, true, s, rfl, hD, hSc, ok.2, q⟩
  | say s => unfold okR at ok; exact ⟨_, _, rfl, .inr (.inr (.inl ⟨rfl, rfl⟩)), _, rfl, _, rfl, _, sa, S, false, s, rfl, hD, hSc, ok.2, q⟩
  | wr c s => unfold okR at ok; exact ⟨_, _, rfl, .inr (.inr (.inr (.inl ⟨rfl, rfl⟩))), _, rfl, _, rfl, _, sa, S, c, s, rfl, hD, hSc, ok.2.1, ok.2.2, q⟩
  | ite s u y n => unfold okR at ok; exact ⟨_, _, rfl, .inr (.inr (.inr (.inr ⟨rfl, rfl⟩))), _, rfl, _, rfl, _, sa, S, s, u, y, n, rfl, hD, hSc, ok.2.2.1, ok.2.1, q⟩
theorem ok_first1 (T : Tops w K mg) {n : Nat} (hn3 : 3 ≤ n) (G_is_valid_row : FnOk P w K mg base CX0 3 T.a_is_valid_row T.d_is_valid_row ["row", "scope", "depth"] (spValid K T.c_Scope))
    (G_first_wrong_path : FnOk P w K mg base CX0 n T.a_first_wrong_path T.d_first_wrong_path ["rows", "scope", "base", "depth"] (spFirst K T.c_Scope (n - 3))) :
    FnOk P w K mg base CX0 (n + 1) T.a_first_wrong_path T.d_first_wrong_path ["rows", "scope", "base", "depth"] (spFirst K T.c_Scope (n - 3 + 1)) := by
  refine T.F_first_wrong_path.ok sc_first_wrong_path (fun vs H Q E h => ?_) (fun cdv A outer s H vs Q E hr h => ?_)
  · obtain ⟨v, sa, b, bs, S, dep, rs, rfl, _⟩ := h
    rfl
  obtain ⟨v, sa, b, bs, S, dep, rs, rfl, hD, hSc, hB, hbl, hb0, ok, hdep, hn, q⟩ := h
  obtain ⟨a, xs, rfl, hS, hl, hx⟩ := rows_at hD
  refine ⟨_, (pss_cons (ps_for PassesOwn.never rfl (pi_enumT rfl T.z_enumerate (pa_cons (pv 0) pa_nil)) (pg_tup rfl (pgs_cons (pg_name (i := 4) sc_first_wrong_path.nd rfl (Or.inl rfl)) (pgs_cons (pg_name (i := 5) sc_first_wrong_path.nd rfl (Or.inl rfl)) pgs_nil))) (pss_cons (ps_set (i := 6) sc_first_wrong_path.nd rfl (Or.inl rfl) (pe_op op_catA (pv 2) (pe_tup (pa_cons (pv 4) pa_nil))))
    (pss_cons (ps_if (pt_not (pt_val (pe_call G_is_valid_row (hr.mono (by omega)) rfl T.m_is_valid_row T.F_is_valid_row.kp T.b_is_valid_row .nil pass0 (pa_cons (pv 5) (pa_cons (pv 1) (pa_cons (pv 3) pa_nil)))))) (pss_one (ps_ret (pv 6))) pss_nil)
    (pss_one (ps_if (pt_cmpR op_eq (pe_ix ix_tup (pv 5) pe_int (fun _ _ => rfl)) pe_str (nomark _)) (pss_one (ps_for PassesOwn.never rfl (pi_tup (pe_tup (pa_cons pe_int (pa_cons pe_int pa_nil)))) (pg_name (i := 7) sc_first_wrong_path.nd rfl (Or.inl rfl)) (pss_cons (ps_set (i := 8) sc_first_wrong_path.nd rfl (Or.inl rfl) (pe_call G_first_wrong_path (hr.mono (by omega)) rfl T.m_first_wrong_path T.F_first_wrong_path.kp T.b_first_wrong_path .nil pass0 (pa_cons (pe_ix ix_tup (pv 5) (pe_op op_add pe_int (pv 7)) (fun _ _ => rfl)) (pa_cons (pv 1) (pa_cons (pe_op op_catA (pv 6) (pe_tup (pa_cons (pv 7) pa_nil))) (pa_cons (pe_op op_add (pv 3) pe_int) pa_nil))))))
    (pss_one (ps_if (pt_cmpR op_notN (pv 8) pe_non (nomark _)) (pss_one (ps_ret (pv 8))) pss_nil))))) pss_nil)))))
    (pss_one (ps_ret pe_non))), ?_⟩
  refine ⟨_, rfl, a, _, rfl, hS, for_enumT (K := K) (a := a) (xs := xs) (fun i σ H' => ∃ v4 v5 v6 v7 v8 : Option V, σ = [some (.ref a), some (.ref sa), some (.ref b), some (.int (dep : Nat)), v4, v5, v6, v7, v8] ∧ Same H H')
    ⟨none, none, none, none, none, rfl, Same.refl _⟩ (fun i σ H' _ ⟨_, _, _, _, _, _, hs⟩ => SqT.same hs hS) ?_ ?_⟩
  · rintro i x σ H1 t hi ⟨v4, v5, v6, v7, v8, rfl, hs⟩ ht
    obtain ⟨r, hr2, hDr⟩ := hx i x hi
    have okr := okRs_get ok hr2
    have hs1 : Same H (upd H1 t (.tup [.int (i : Nat), x])) := hs.trans (Same.new ht _)
    refine ⟨t, _, rfl, SqT.of upd_same, rfl, _, _, rfl, _, _, rfl, rfl, ?_⟩
    generalize upd H1 t (.tup [.int (i : Nat), x]) = H2 at hs1
    -- path = base + (place,)
    refine ⟨_, rfl, _, rfl, by show 1 ≤ sizeLine; decide, fun t1 ht1 => ?_⟩
    have hs2 := hs1.trans (Same.new ht1 (.tup [.int (i : Nat)]))
    refine ⟨b, t1, bs, _, rfl, rfl, SqT.same hs2 hB, SqT.of upd_same, Nat.le_of_lt (small1000 (by show bs.length + 1 ≤ 1000; omega)), fun e => absurd e hb0, fun _ e => (by cases e), fun _ _ pa hpa => ?_⟩
    have hs3 := hs2.trans (Same.new hpa (.tup (bs ++ [.int (i : Nat)])))
    have hP : SqT K (upd (upd H2 t1 (.tup [.int (i : Nat)])) pa (.tup (bs ++ [.int (i : Nat)]))) pa (bs ++ [.int (i : Nat)]) := SqT.of upd_same
    show tSeq _ _ _ _ (upd (upd H2 t1 (.tup [.int (i : Nat)])) pa (.tup (bs ++ [.int (i : Nat)])))
    generalize upd (upd H2 t1 (.tup [.int (i : Nat)])) pa (.tup (bs ++ [.int (i : Nat)])) = H3 at hs3 hP
    -- is_valid_row
    refine ⟨_, rfl, _, rfl, _, rfl, _, sa, S, dep, r, rfl, Dp.same hs3 hDr, hSc.same hs3, okr, fun H4 s4 => ⟨_, rfl, if_false_of rfl ?_⟩⟩
    have hs4 := hs3.trans s4
    cases hi2 : isIte r with
    | false =>
      obtain ⟨ar, ys, rfl, hSr, h0⟩ := row_at (Dp.same hs4 hDr)
      refine ⟨_, rfl, ar, _, 0, _, rfl, rfl, hSr, atI_nat (j := 0) h0, rfl, _, rfl, ?_⟩
      exact if_false_of ((tag_if r).trans hi2) ⟨_, _, _, v7, v8, rfl, hs4⟩
    | true =>
      cases r with
      | ite sl u y n' =>
        obtain ⟨ar, vy, vn, rfl, hSr, hy, hn'⟩ := ite_at (Dp.same hs4 hDr)
        unfold okR at okr
        refine ⟨_, rfl, ar, _, 0, _, rfl, rfl, hSr, rfl, rfl, _, rfl, ?_⟩
        refine if_true_of (by decide +kernel) ?_
        refine ⟨by show 2 ≤ sizeLine; decide, fun tb htb => ?_⟩
        have hs5 := Same.new htb (.tup [.int 0, .int 1])
        refine ⟨tb, rfl, ⟨_, SqT.of upd_same⟩, for_tup (K := K) (a := tb) (xs := [.int 0, .int 1]) (fun j σ H' => ∃ v7 v8 : Option V, σ = [some (.ref a), some (.ref sa), some (.ref b), some (.int (dep : Nat)), some (.int (i : Nat)), some (.ref ar), some (.ref pa), v7, v8] ∧ Same (upd H4 tb (.tup [.int 0, .int 1])) H')
          ⟨v7, v8, rfl, Same.refl _⟩ (fun j σ H' _ ⟨_, _, _, h⟩ => SqT.of (h _ _ upd_same)) ?_ ?_⟩
        · rintro j x σ H5 hj ⟨v7, v8, rfl, h5⟩
          have h45 := hs5.trans h5
          have h05 := hs4.trans h45
          obtain ⟨k, vk, rk, rfl, hk, hDk, okk⟩ : ∃ (k : Nat) (vk : V) (rk : List Td.Row), x = .int (k : Nat) ∧ atI [V.str "if", .str sl, .str u, vy, vn] (3 + (k : Int)) = some vk ∧ Dp K H4 vk (.tuple (rowsD rk)) ∧ okRs S (dep + 1) rk := by
            match j, hj with
            | 0, hj => cases hj; exact ⟨0, vy, y, rfl, rfl, hy, okr.2.2.2.1⟩
            | 1, hj => cases hj; exact ⟨1, vn, n', rfl, rfl, hn', okr.2.2.2.2⟩
            | j + 2, hj => simp at hj
          refine ⟨_, rfl, _, rfl, _, _, rfl, rfl, ar, _, _, _, rfl, rfl, SqT.same h45 hSr, hk, _, rfl, _, rfl, _, rfl, by show 1 ≤ sizeLine; decide, fun t2 ht2 => ?_⟩
          have s52 := Same.new ht2 (.tup [.int (k : Nat)])
          have hP5 := SqT.same ((s4.trans h45).trans s52) hP
          refine ⟨pa, t2, _, _, rfl, rfl, hP5, SqT.of upd_same, Nat.le_of_lt (small1000 (by rw [List.length_append]; show bs.length + 1 + 1 ≤ 1000; omega)), fun e => (by simp at e), fun _ e => (by cases e), fun _ _ t3 ht3 => ?_⟩
          have s53 := s52.trans (Same.new ht3 (.tup (bs ++ [.int (i : Nat)] ++ [.int (k : Nat)])))
          refine ⟨_, rfl, _, _, rfl, rfl, vk, sa, t3, _, S, dep + 1, rk, rfl, Dp.same (h45.trans s53) hDk, hSc.same (h05.trans s53), SqT.of upd_same, by simp; omega, by simp, okk, by omega, by omega, fun H6 s6 => ?_⟩
          refine ⟨_, rfl, rfl, _, rfl, if_false_of rfl ⟨_, _, rfl, h5.trans (s53.trans s6)⟩⟩
        · rintro σ H5 ⟨v7, v8, rfl, h5⟩
          exact ⟨_, _, _, v7, v8, rfl, hs4.trans (hs5.trans h5)⟩
      | _ => cases hi2
  · rintro σ H1 ⟨v4, v5, v6, v7, v8, rfl, hs⟩
    exact q H1 hs
theorem ok_first (T : Tops w K mg) (G1 : FnOk P w K mg base CX0 3 T.a_is_valid_row T.d_is_valid_row ["row", "scope", "depth"] (spValid K T.c_Scope)) :
    ∀ k, FnOk P w K mg base CX0 (k + 3) T.a_first_wrong_path T.d_first_wrong_path ["rows", "scope", "base", "depth"] (spFirst K T.c_Scope k)
  | 0 => by
    have no : ∀ vs H Q E, ¬ spFirst K T.c_Scope 0 vs H Q E := fun vs H Q E h => by
      obtain ⟨_, _, _, _, _, dep, _, _, _, _, _, _, _, _, h1, h2, _⟩ := h
      omega
    exact ⟨fun vs H Q E h => absurd h (no vs H Q E), fun A outer s H args us vs Q E _ _ _ _ h => absurd h (no vs H Q E)⟩
  | k + 1 => ok_first1 T (n := k + 3) (by omega) G1 (ok_first T G1 k)
end
end K01
namespace K01
open PySem PySem.Spec PyProof.Rows L2 Td
theorem Same.own {H H' : Hp} {p : Addr} {o : HO} (k : Same H H') (h : H p = none) : Same H (upd H' p o) := fun b u e => by
  rw [upd_ne (ne_of_none e h)]; exact k b u e
theorem cnts_get {rs : List Td.Row} {i : Nat} {r : Td.Row} (h : rs[i]? = some r) : cnt r + cnts (rs.take i) ≤ cnts rs := by
  have e : cnts rs = cnts (rs.take (i + 1)) + cnts (rs.drop (i + 1)) := by rw [← cnts_append, List.take_append_drop]
  rw [e, cnts_take h]; omega
section
variable {P : Program} {w : World} {K : PySem.W.Frag} {mg : Str → Option Value} {base : Heap}
theorem ok_paths1 (T : Tops w K mg) {n : Nat} (G_paths_of_rows : FnOk P w K mg base CX0 n T.a_paths_of_rows T.d_paths_of_rows ["rows", "base"] (spPaths K n)) :
    FnOk P w K mg base CX0 (n + 1) T.a_paths_of_rows T.d_paths_of_rows ["rows", "base"] (spPaths K (n + 1)) := by
  refine T.F_paths_of_rows.ok sc_paths_of_rows (fun vs H Q E h => ?_) (fun cdv A outer s H vs Q E hr h => ?_)
  · obtain ⟨v, b, bs, S, dep, rs, rfl, _⟩ := h
    rfl
  obtain ⟨v, b, bs, S, dep, rs, rfl, hD, hB, hbl, hb0, ok, hcn, hdep, hn, q⟩ := h
  obtain ⟨a, xs, rfl, hS, hl, hx⟩ := rows_at hD
  refine ⟨_, (pss_cons (ps_set (i := 2) sc_paths_of_rows.nd rfl (Or.inl rfl) (pe_lst pa_nil))
    (pss_cons (ps_for PassesOwn.never rfl (pi_enumT rfl T.z_enumerate (pa_cons (pv 0) pa_nil)) (pg_tup rfl (pgs_cons (pg_name (i := 3) sc_paths_of_rows.nd rfl (Or.inl rfl)) (pgs_cons (pg_name (i := 4) sc_paths_of_rows.nd rfl (Or.inl rfl)) pgs_nil))) (pss_cons (ps_set (i := 5) sc_paths_of_rows.nd rfl (Or.inl rfl) (pe_op op_catA (pv 1) (pe_tup (pa_cons (pv 3) pa_nil))))
    (pss_cons (ps_expr (pe_bm PySem.F.plainAttrs_list PySem.F.slot_list_append PySem.F.type_list_append mt_append (pv 2) (pa_cons (pv 5) pa_nil)))
    (pss_one (ps_if (pt_cmpR op_eq (pe_ix ix_tup (pv 4) pe_int (fun _ _ => rfl)) pe_str (nomark _)) (pss_one (ps_for PassesOwn.never rfl (pi_tup (pe_tup (pa_cons pe_int (pa_cons pe_int pa_nil)))) (pg_name (i := 6) sc_paths_of_rows.nd rfl (Or.inl rfl)) (pss_one (ps_expr (pe_bm PySem.F.plainAttrs_list PySem.F.slot_list_extend PySem.F.type_list_extend mt_extend (pv 2) (pa_cons (pe_call G_paths_of_rows (hr.mono (by omega)) rfl T.m_paths_of_rows T.F_paths_of_rows.kp T.b_paths_of_rows .nil pass0 (pa_cons (pe_ix ix_tup (pv 4) (pe_op op_add pe_int (pv 6)) (fun _ _ => rfl)) (pa_cons (pe_op op_catA (pv 5) (pe_tup (pa_cons (pv 6) pa_nil))) pa_nil))) pa_nil)))))) pss_nil)))))
    (pss_one (ps_ret (pv 2))))), ?_⟩
  refine ⟨by show 0 ≤ sizeLine; decide, fun p hp => ?_⟩
  refine ⟨_, rfl, a, _, rfl, SqT.same (Same.new hp _) hS, for_enumT (K := K) (a := a) (xs := xs) (fun i σ H' => ∃ (v4 v5 v6 v7 : Option V) (ys : List V), σ = [some (.ref a), some (.ref b), some (.ref p), v4, v5, v6, v7] ∧ Same H H' ∧ H' p = some (.lst ys) ∧ ys.length = cnts (rs.take i))
    ⟨none, none, none, none, [], rfl, Same.new hp _, upd_same, rfl⟩ (fun i σ H' _ ⟨_, _, _, _, _, _, hs, _⟩ => SqT.same hs hS) ?_ ?_⟩
  · rintro i x σ H1 t hi ⟨v4, v5, v6, v7, ys, rfl, hs, hy, hyl⟩ ht
    obtain ⟨r, hr2, hDr⟩ := hx i x hi
    have okr := okRs_get ok hr2
    have hcr := cnts_get hr2
    have hs1 : Same H (upd H1 t (.tup [.int (i : Nat), x])) := hs.trans (Same.new ht _)
    have hy1 : upd H1 t (.tup [.int (i : Nat), x]) p = some (.lst ys) := Same.new ht _ _ _ hy
    refine ⟨t, _, rfl, SqT.of upd_same, rfl, _, _, rfl, _, _, rfl, rfl, ?_⟩
    generalize upd H1 t (.tup [.int (i : Nat), x]) = H2 at hs1 hy1
    refine ⟨_, rfl, _, rfl, by show 1 ≤ sizeLine; decide, fun t1 ht1 => ?_⟩
    have hs2 := hs1.trans (Same.new ht1 (.tup [.int (i : Nat)]))
    have hy2 := Same.new ht1 (.tup [.int (i : Nat)]) _ _ hy1
    refine ⟨b, t1, bs, _, rfl, rfl, SqT.same hs2 hB, SqT.of upd_same, Nat.le_of_lt (small1000 (by show bs.length + 1 ≤ 1000; omega)), fun e => absurd e hb0, fun _ e => (by cases e), fun _ _ pa hpa => ?_⟩
    have hs3 := hs2.trans (Same.new hpa (.tup (bs ++ [.int (i : Nat)])))
    have hy3 := Same.new hpa (.tup (bs ++ [.int (i : Nat)])) _ _ hy2
    have hP : SqT K (upd (upd H2 t1 (.tup [.int (i : Nat)])) pa (.tup (bs ++ [.int (i : Nat)]))) pa (bs ++ [.int (i : Nat)]) := SqT.of upd_same
    show tSeq _ _ _ _ (upd (upd H2 t1 (.tup [.int (i : Nat)])) pa (.tup (bs ++ [.int (i : Nat)])))
    generalize upd (upd H2 t1 (.tup [.int (i : Nat)])) pa (.tup (bs ++ [.int (i : Nat)])) = H3 at hs3 hP hy3
    -- append
    have hyb : ys.length ≤ 100 := by omega
    refine ⟨_, rfl, .inl ⟨rfl, _, SqL.of hy3⟩, _, rfl, p, ys, _, rfl, rfl, hy3, small1000 (by omega), ?_⟩
    have hs4 : Same H (upd H3 p (.lst (ys ++ [.ref pa]))) := Same.own hs3 hp
    have hP4 : SqT K (upd H3 p (.lst (ys ++ [.ref pa]))) pa (bs ++ [.int (i : Nat)]) := SqT.tk (TK.upd (by rw [hy3]; trivial)) hP
    have hy4 : upd H3 p (.lst (ys ++ [.ref pa])) p = some (.lst (ys ++ [.ref pa])) := upd_same
    have hl4 : (ys ++ [V.ref pa]).length = cnts (rs.take i) + 1 := by rw [List.length_append, hyl]; rfl
    generalize upd H3 p (.lst (ys ++ [.ref pa])) = H4 at hs4 hP4 hy4
    generalize ys ++ [V.ref pa] = ys4 at hy4 hl4
    cases hi2 : isIte r with
    | false =>
      obtain ⟨ar, zs, rfl, hSr, h0⟩ := row_at (Dp.same hs4 hDr)
      refine ⟨_, rfl, ar, _, 0, _, rfl, rfl, hSr, atI_nat (j := 0) h0, rfl, _, rfl, ?_⟩
      exact if_false_of ((tag_if r).trans hi2) ⟨_, _, _, v7, ys4, rfl, hs4, hy4, by rw [cnts_take hr2, cnt_flat hi2, hl4]⟩
    | true =>
      cases r with
      | ite sl u y n' =>
        obtain ⟨ar, vy, vn, rfl, hSr, hyD, hnD⟩ := ite_at hDr
        unfold okR at okr
        have ecn : Td.cnt (Td.Row.ite sl u y n') = 1 + cnts y + cnts n' := by unfold Td.cnt; rfl
        refine ⟨_, rfl, ar, _, 0, _, rfl, rfl, SqT.same hs4 hSr, rfl, rfl, _, rfl, ?_⟩
        refine if_true_of (by decide +kernel) ?_
        refine ⟨by show 2 ≤ sizeLine; decide, fun tb htb => ?_⟩
        have hs5 := Same.new htb (.tup [.int 0, .int 1])
        have htbS : SqT K (upd H4 tb (.tup [.int 0, .int 1])) tb [.int 0, .int 1] := SqT.of upd_same
        have hP5 := SqT.same hs5 hP4
        have hy5 := hs5 _ _ hy4
        have hs05 := hs4.trans hs5
        generalize upd H4 tb (.tup [.int 0, .int 1]) = H5 at hs5 htbS hP5 hy5 hs05
        refine ⟨tb, rfl, ⟨_, htbS⟩, for_tup (K := K) (a := tb) (xs := [.int 0, .int 1]) (fun j σ H' => ∃ (v7 : Option V) (zs : List V), σ = [some (.ref a), some (.ref b), some (.ref p), some (.int (i : Nat)), some (.ref ar), some (.ref pa), v7] ∧ Same H H' ∧ TK H5 H' ∧ H' p = some (.lst zs) ∧ zs.length = cnts (rs.take i) + 1 + (if j = 0 then 0 else cnts y) + (if j = 2 then cnts n' else 0))
          ⟨v7, ys4, rfl, hs05, TK.refl _, hy5, by rw [hl4]; simp⟩ (fun j σ H' _ ⟨_, _, _, _, tk, _⟩ => SqT.tk tk htbS) ?_ ?_⟩
        · rintro j x σ H6 hj ⟨v7, zs, rfl, h06, tk, hy6, hl6⟩
          have D1 : Dp K H6 vy (.tuple (rowsD y)) := Dp.same h06 hyD
          have D2 : Dp K H6 vn (.tuple (rowsD n')) := Dp.same h06 hnD
          obtain ⟨k, vk, rk, rfl, hk, hDk, okk, hck, hle, hjk⟩ : ∃ (k : Nat) (vk : V) (rk : List Td.Row), x = .int (k : Nat) ∧ atI [V.str "if", .str sl, .str u, vy, vn] (3 + (k : Int)) = some vk ∧ Dp K H6 vk (.tuple (rowsD rk)) ∧ okRs S (dep + 1) rk ∧ cnts rk ≤ 100 ∧ zs.length + cnts rk ≤ 100 ∧
              zs.length + cnts rk = cnts (rs.take i) + 1 + (if j + 1 = 0 then 0 else cnts y) + (if j + 1 = 2 then cnts n' else 0) := by
            match j, hj with
            | 0, hj => cases hj; exact ⟨0, vy, y, rfl, rfl, D1, okr.2.2.2.1, by omega, by rw [hl6]; simp; omega, by rw [hl6]; simp⟩
            | 1, hj => cases hj; exact ⟨1, vn, n', rfl, rfl, D2, okr.2.2.2.2, by omega, by rw [hl6]; simp; omega, by rw [hl6]; simp⟩
            | j + 2, hj => simp at hj
          refine ⟨_, rfl, .inl ⟨rfl, _, SqL.of hy6⟩, ?_⟩
          refine ⟨_, rfl, _, rfl, _, _, rfl, rfl, ar, _, _, _, rfl, rfl, SqT.same h06 hSr, hk, _, rfl, _, rfl, by show 1 ≤ sizeLine; decide, fun t2 ht2 => ?_⟩
          have s62 := Same.new ht2 (.tup [.int (k : Nat)])
          have hP6 := SqT.same s62 (SqT.tk tk hP5)
          refine ⟨pa, t2, _, _, rfl, rfl, hP6, SqT.of upd_same, Nat.le_of_lt (small1000 (by rw [List.length_append]; show bs.length + 1 + 1 ≤ 1000; omega)), fun e => (by simp at e), fun _ e => (by cases e), fun _ _ t3 ht3 => ?_⟩
          have s63 := s62.trans (Same.new ht3 (.tup (bs ++ [.int (i : Nat)] ++ [.int (k : Nat)])))
          refine ⟨vk, t3, _, S, dep + 1, rk, rfl, Dp.same s63 hDk, SqT.of upd_same, by simp; omega, by simp, okk, hck, by omega, by omega, fun p2 ws H7 s7 hp2 hw hwl => ?_⟩
          have hy7 := s7 _ _ (s63 _ _ hy6)
          have hn2 : p ≠ p2 := ne_of_none (s63 _ _ hy6) hp2
          refine ⟨p, p2, zs, ws, rfl, rfl, hy7, hw, Nat.le_of_lt (small1000 (by omega)), ?_⟩
          refine ⟨_, _, rfl, Same.own ((h06.trans s63).trans s7) hp, ?_, upd_same, ?_⟩
          · exact (tk.trans (TK.of_same (s63.trans s7))).trans (TK.upd (by rw [hy7]; trivial))
          · rw [List.length_append, hwl]; exact hjk
        · rintro σ H6 ⟨v7, zs, rfl, h06, tk, hy6, hl6⟩
          refine ⟨_, _, _, v7, zs, rfl, h06, hy6, ?_⟩
          rw [hl6, cnts_take hr2, ecn]
          simp
          omega
      | _ => cases hi2
  · rintro σ H1 ⟨v4, v5, v6, v7, ys, rfl, hs, hy, hyl⟩
    rw [hl, List.take_length] at hyl
    exact ⟨_, rfl, q p ys H1 hs hp hy hyl⟩
theorem ok_paths (T : Tops w K mg) : ∀ k, FnOk P w K mg base CX0 k T.a_paths_of_rows T.d_paths_of_rows ["rows", "base"] (spPaths K k)
  | 0 => by
    have no : ∀ vs H Q E, ¬ spPaths K 0 vs H Q E := fun vs H Q E h => by
      obtain ⟨_, _, _, _, dep, _, _, _, _, _, _, _, _, h1, h2, _⟩ := h
      omega
    exact ⟨fun vs H Q E h => absurd h (no vs H Q E), fun A outer s H args us vs Q E _ _ _ _ h => absurd h (no vs H Q E)⟩
  | k + 1 => ok_paths1 T (ok_paths T k)
end
end K01
namespace K01
open PySem PySem.Spec PyProof.Rows L2 Td
theorem cat_all {K : PySem.W.Frag} {H : Hp} {a b : Addr} {xs ys : List V} {Q : V → Hp → Prop} (hA : SqT K H a xs) (hB : SqT K H b ys) (hl : xs.length + ys.length ≤ sizeLine)
    (k : ∀ (p : Addr) H', Same H H' → SqT K H' p (xs ++ ys) → Q (.ref p) H') : rCatA K (.ref a) (.ref b) H Q := by
  refine ⟨a, b, xs, ys, rfl, rfl, hA, hB, hl, fun e => ?_, fun _ e => ?_, fun _ _ p hp => ?_⟩
  · subst e; exact k b H (Same.refl _) hB
  · subst e; exact k a H (Same.refl _) (by rw [List.append_nil]; exact hA)
  · exact k p _ (Same.new hp _) (SqT.of upd_same)
theorem okDer_get {words sources : List Str} {most : Nat} : ∀ {ps : List (Str × List Td.Row)} {rd : List Str} {i : Nat} {q : Str × List Td.Row}, okDer words sources most rd ps → ps[i]? = some q →
    okRs ⟨false, words, sources, rd ++ (ps.take i).map (·.1)⟩ 1 q.2 ∧ cnts q.2 ≤ most
  | [], rd, i, q, _, h => by simp at h
  | x :: ps, rd, 0, q, h, e => by
    unfold okDer at h
    simp at e; subst e
    exact ⟨by simpa using h.1, h.2.1.1⟩
  | x :: ps, rd, i + 1, q, h, e => by
    unfold okDer at h
    have := okDer_get (i := i) (q := q) h.2.2 (by simpa using e)
    simpa using this
theorem okEff_get {words sources rd : List Str} {most : Nat} : ∀ {ps : List (Str × List Td.Row)} {i : Nat} {q : Str × List Td.Row}, okEff words sources rd most ps → ps[i]? = some q →
    okRs ⟨true, words, sources, rd⟩ 1 q.2 ∧ cnts q.2 ≤ most
  | [], i, q, _, h => by simp at h
  | x :: ps, 0, q, h, e => by
    unfold okEff at h
    simp at e; subst e
    exact ⟨h.1, h.2.1.1⟩
  | x :: ps, i + 1, q, h, e => by
    unfold okEff at h
    exact okEff_get (i := i) (q := q) h.2.2 (by simpa using e)
theorem okDer_lim {words sources : List Str} {most : Nat} : ∀ {ps : List (Str × List Td.Row)} {rd : List Str} {q : Str × List Td.Row}, okDer words sources most rd ps → q ∈ ps → Lim false most q.2
  | [], rd, q, _, h => by cases h
  | x :: ps, rd, q, h, e => by
    unfold okDer at h
    rcases List.mem_cons.mp e with rfl | e
    · exact h.2.1
    · exact okDer_lim h.2.2 e
theorem okEff_lim {words sources rd : List Str} {most : Nat} : ∀ {ps : List (Str × List Td.Row)} {q : Str × List Td.Row}, okEff words sources rd most ps → q ∈ ps → Lim true most q.2
  | [], q, _, h => by cases h
  | x :: ps, q, h, e => by
    unfold okEff at h
    rcases List.mem_cons.mp e with rfl | e
    · exact h.2.1
    · exact okEff_lim h.2.2 e
theorem scope_made {K : PySem.W.Frag} {C x dx aw as ar : Addr} {S : Sc} {H : Hp} (hx : H x = none) (hdx : H dx = none) (hne : dx ≠ x) (h1 : SqT K H aw (S.words.map V.str)) (h2 : SqT K H as (S.sources.map V.str)) (h3 : SqT K H ar (S.readable.map V.str)) :
    ∃ H3, upd (upd (upd H dx (.own x)) x (.ins C dx [])) x (.ins C dx (scF (kdS S.eff) aw as ar)) = H3 ∧ Same H H3 ∧ ScopeAt K H3 C x S := by
  have hs : Same H (upd (upd H dx (.own x)) x (.ins C dx (scF (kdS S.eff) aw as ar))) := (Same.new hdx _).trans (Same.new (by rw [upd_ne (Ne.symm hne)]; exact hx) _)
  exact ⟨_, by rw [upd_upd], hs, ⟨dx, aw, as, ar, upd_same, SqT.same hs h1, SqT.same hs h2, SqT.same hs h3⟩⟩
theorem Tn.same {K : PySem.W.Frag} {H H' : Hp} {v : V} {d : PyData} (s : Same H H') (h : Tn K H v d) : Tn K H' v d := Tn.keep (TK.of_same s) h
/-- what the parts' checks take -/
def spBodies (K : PySem.W.Frag) : Sp := fun vs H Q _ => ∃ (aw as : Addr) (vd ve : V) (p : PP) (m : Nat), vs = [.ref aw, .ref as, vd, ve] ∧ SqT K H aw (p.words.map V.str) ∧ SqT K H as (p.sources.map V.str) ∧ Tn K H vd (pairsD p.derived) ∧ Tn K H ve (pairsD p.effects) ∧
  p.Ok m ∧ m ≤ 16 ∧ ∀ H', Same H H' → Q .non H'
def progF (aw as : Addr) (vd ve : V) (dn en : Addr) : List (Str × V) := [("words", .ref aw), ("sources", .ref as), ("derived", vd), ("effects", ve), ("_derived_names", .ref dn), ("_effect_names", .ref en)]
theorem progF_put (aw as : Addr) (vd ve : V) (dn en : Addr) : putF "_effect_names" (.ref en) (putF "_derived_names" (.ref dn) (putF "effects" ve (putF "derived" vd (putF "sources" (.ref as) (putF "words" (.ref aw) []))))) = progF aw as vd ve dn en := by kernel_rfl
theorem progF_words (aw as : Addr) (vd ve : V) (dn en : Addr) : (progF aw as vd ve dn en).lookup ("words" : Str) = some (.ref aw) := by kernel_rfl
theorem progF_sources (aw as : Addr) (vd ve : V) (dn en : Addr) : (progF aw as vd ve dn en).lookup ("sources" : Str) = some (.ref as) := by kernel_rfl
theorem progF_derived (aw as : Addr) (vd ve : V) (dn en : Addr) : (progF aw as vd ve dn en).lookup ("derived" : Str) = some vd := by kernel_rfl
theorem progF_effects (aw as : Addr) (vd ve : V) (dn en : Addr) : (progF aw as vd ve dn en).lookup ("effects" : Str) = some ve := by kernel_rfl
theorem progF_dn (aw as : Addr) (vd ve : V) (dn en : Addr) : (progF aw as vd ve dn en).lookup ("_derived_names" : Str) = some (.ref dn) := by kernel_rfl
theorem progF_en (aw as : Addr) (vd ve : V) (dn en : Addr) : (progF aw as vd ve dn en).lookup ("_effect_names" : Str) = some (.ref en) := by kernel_rfl
structure ProgAt (K : PySem.W.Frag) (H : Hp) (C pa : Addr) (p : PP) : Prop where
  ex : ∃ (dx aw as : Addr) (vd ve : V), (∃ (dn en : Addr), H pa = some (.ins C dx (progF aw as vd ve dn en)) ∧ SqT K H dn (p.derived.map fun q => V.str q.1) ∧ SqT K H en (p.effects.map fun q => V.str q.1)) ∧ SqT K H aw (p.words.map V.str) ∧ SqT K H as (p.sources.map V.str) ∧ Tn K H vd (pairsD p.derived) ∧ Tn K H ve (pairsD p.effects)
theorem ProgAt.same {K : PySem.W.Frag} {H H' : Hp} {C sa : Addr} {S : PP} (h : ProgAt K H C sa S) (s : Same H H') : ProgAt K H' C sa S := by
  obtain ⟨dx, aw, as, vd, ve, ⟨dn, en, e, hdn, hen⟩, h1, h2, h3, h4⟩ := h.ex
  exact ⟨dx, aw, as, vd, ve, ⟨dn, en, s _ _ e, SqT.same s hdn, SqT.same s hen⟩, SqT.same s h1, SqT.same s h2, Tn.same s h3, Tn.same s h4⟩
def spProgram (K : PySem.W.Frag) (C : Addr) : Sp := fun vs H Q _ => ∃ (x dx aw as : Addr) (vd ve : V) (p : PP) (m : Nat), vs = [.ref x, .ref aw, .ref as, vd, ve] ∧ H x = some (.ins C dx []) ∧ SqT K H aw (p.words.map V.str) ∧ SqT K H as (p.sources.map V.str) ∧ Tn K H vd (pairsD p.derived) ∧ Tn K H ve (pairsD p.effects) ∧
  p.Ok m ∧ m ≤ 16 ∧ ∀ (dn en : Addr) H', Same H H' → SqT K (upd H' x (.ins C dx (progF aw as vd ve dn en))) dn (p.derived.map fun q => V.str q.1) → SqT K (upd H' x (.ins C dx (progF aw as vd ve dn en))) en (p.effects.map fun q => V.str q.1) → Q .non (upd H' x (.ins C dx (progF aw as vd ve dn en)))
def spBodyOf (K : PySem.W.Frag) (C : Addr) : Sp := fun vs H Q _ => ∃ (pa : Addr) (z : Str) (p : PP) (m : Nat) (q : Str × List Td.Row), vs = [.ref pa, .str z] ∧ ProgAt K H C pa p ∧ p.Ok m ∧ q ∈ p.derived ++ p.effects ∧ q.1 = z ∧
  ∀ (v : V) H', Same H H' → Tn K H' v (.tuple (rowsD q.2)) → Q v H'
def spDerivedNames (K : PySem.W.Frag) (C : Addr) : Sp := fun vs H Q _ => ∃ (pa : Addr) (p : PP) (m : Nat), vs = [.ref pa] ∧ ProgAt K H C pa p ∧ p.Ok m ∧
  ∀ (t : Addr) H', Same H H' → SqT K H' t (p.derived.map fun q => V.str q.1) → Q (.ref t) H'
section
variable {P : Program} {w : World} {K : PySem.W.Frag} {mg : Str → Option Value} {base : Heap}
theorem ok_check_body (T : Tops w K mg) (G_first_wrong_path : FnOk P w K mg base CX0 7 T.a_first_wrong_path T.d_first_wrong_path ["rows", "scope", "base", "depth"] (spFirst K T.c_Scope 4))
    (G_paths_of_rows : FnOk P w K mg base CX0 4 T.a_paths_of_rows T.d_paths_of_rows ["rows", "base"] (spPaths K 4)) :
    FnOk P w K mg base CX0 8 T.a_check_body T.d_check_body ["rows", "scope", "index"] (spBody K T.c_Scope) := by
  refine T.F_check_body.ok sc_check_body (fun vs H Q E h => ?_) (fun cdv A outer s H vs Q E hr h => ?_)
  · obtain ⟨v, sa, S, rs, i, rfl, _⟩ := h
    rfl
  obtain ⟨v, sa, S, rs, i, rfl, hD, hSc, ok, hc, q⟩ := h
  obtain ⟨a, xs, rfl, hS, hl, hx⟩ := rows_at hD
  obtain ⟨dx, aw, as, ar, e, h1, h2, h3⟩ := hSc.ex
  refine ⟨_, (pss_cons (ps_set (i := 3) sc_check_body.nd rfl (Or.inl rfl) (pe_tup (pa_cons (pe_fld (pv 1) rfl) (pa_cons (pv 2) pa_nil))))
    (pss_cons (ps_if (pt_not (pt_val (pe_callB call_isi rfl T.z_isinstance (by decide +kernel) (pa_cons (pv 0) (pa_cons (pe_bltn (v := .ty "tuple") rfl T.z_tuple (by decide +kernel) rfl) pa_nil))))) (pss_one ps_never) pss_nil)
    (pss_cons (ps_set (i := 4) sc_check_body.nd rfl (Or.inl rfl) (pe_call G_first_wrong_path (hr.mono (by omega)) rfl T.m_first_wrong_path T.F_first_wrong_path.kp T.b_first_wrong_path .nil pass0 (pa_cons (pv 0) (pa_cons (pv 1) (pa_cons (pv 3) (pa_cons pe_int pa_nil))))))
    (pss_cons (ps_if (pt_cmpR op_notN (pv 4) pe_non (nomark _)) (pss_one ps_never) pss_nil)
    (pss_one (ps_if (pt_cmpR op_gt (pe_callB call_len rfl T.z_len PySem.boot_len (pa_cons (pe_call G_paths_of_rows (hr.mono (by omega)) rfl T.m_paths_of_rows T.F_paths_of_rows.kp T.b_paths_of_rows .nil pass0 (pa_cons (pv 0) (pa_cons (pv 3) pa_nil))) pa_nil)) (pe_glob (v := .int 16) rfl T.c_MOST_ROWS ⟨_, rfl⟩) (nomark _)) (pss_one ps_never) pss_nil)))))), ?_⟩
  refine ⟨_, rfl, sa, _, dx, _, _, rfl, e, T.l_Scope, T.n_Scope_kind, scF_kind .., _, rfl, by show 2 ≤ sizeLine; decide, fun b hb => ?_⟩
  have s1 : Same H (upd H b (.tup [.str (kdS S.eff), .int i])) := Same.new hb _
  have hB : SqT K (upd H b (.tup [.str (kdS S.eff), .int i])) b [.str (kdS S.eff), .int i] := SqT.of upd_same
  show tSeq _ _ _ _ (upd H b (.tup [.str (kdS S.eff), .int i]))
  generalize upd H b (.tup [.str (kdS S.eff), .int i]) = H1 at s1 hB
  refine ⟨_, rfl, .ref a, .ty "tuple", .type "tuple", .type "tuple", true, rfl, .ty _, ty_tup (SqT.same s1 hS), kit_ty (by decide +kernel), true, rfl, if_false_of rfl ?_⟩
  refine ⟨_, rfl, _, rfl, _, rfl, _, sa, b, _, S, 1, rs, rfl, Dp.same s1 hD, hSc.same s1, hB, by simp, by simp, ok, by omega, by omega, fun H2 s2 => ?_⟩
  refine ⟨_, rfl, rfl, _, rfl, if_false_of rfl ?_⟩
  have s12 := s1.trans s2
  refine ⟨_, rfl, _, rfl, _, b, _, S, 1, rs, rfl, Dp.same s12 hD, SqT.same s2 hB, by simp, by simp, ok, by omega, by omega, by omega, fun p ys H3 s3 hp hy hyl => ?_⟩
  refine ⟨.ref p, _, rfl, .inl ⟨_, SqL.of hy, rfl⟩, _, _, rfl, rfl, _, rfl, if_false_of (decide_eq_false (by rw [hyl]; omega)) ?_⟩
  exact q H3 (s12.trans s3)
theorem ok_check_bodies (T : Tops w K mg) (G_check_body : FnOk P w K mg base CX0 8 T.a_check_body T.d_check_body ["rows", "scope", "index"] (spBody K T.c_Scope))
    (G_Scope_init : FnOk P w K mg base CX0 1 T.a_Scope_init T.d_Scope_init ["self", "kind", "words", "sources", "readable"] (spScope T.c_Scope)) :
    FnOk P w K mg base CX0 9 T.a_check_bodies T.d_check_bodies ["words", "sources", "derived", "effects"] (spBodies K) := by
  refine T.F_check_bodies.ok sc_check_bodies (fun vs H Q E h => ?_) (fun cdv A outer s H vs Q E hr h => ?_)
  · obtain ⟨aw, as, vd, ve, p, m, rfl, _⟩ := h
    rfl
  obtain ⟨aw, as, vd, ve, p, m, rfl, hW, hSo, hDe, hEf, ok, hm, q⟩ := h
  obtain ⟨ad, xs, rfl, hA, hl, hx⟩ := pairs_at hDe
  obtain ⟨ae, ys, rfl, hA2, hl2, hx2⟩ := pairs_at hEf
  refine ⟨_, (pss_cons (ps_set (i := 4) sc_check_bodies.nd rfl (Or.inl rfl) (pv 1))
    (pss_cons (ps_for PassesOwn.never rfl (pi_enumT rfl T.z_enumerate (pa_cons (pv 2) pa_nil)) (pg_tup rfl (pgs_cons (pg_name (i := 5) sc_check_bodies.nd rfl (Or.inl rfl)) (pgs_cons (pg_tup rfl (pgs_cons (pg_name (i := 6) sc_check_bodies.nd rfl (Or.inl rfl)) (pgs_cons (pg_name (i := 7) sc_check_bodies.nd rfl (Or.inl rfl)) pgs_nil))) pgs_nil))) (pss_cons (ps_expr (pe_call G_check_body (hr.mono (by omega)) rfl T.m_check_body T.F_check_body.kp T.b_check_body .nil pass0 (pa_cons (pv 7) (pa_cons (pe_make T.k_Scope G_Scope_init (hr.mono (by omega)) rfl T.m_Scope T.b_Scope_init .nil pass0 (pa_cons pe_str (pa_cons (pv 0) (pa_cons (pv 1) (pa_cons (pv 4) pa_nil))))) (pa_cons (pv 5) pa_nil)))))
    (pss_one (ps_set (i := 4) sc_check_bodies.nd rfl (Or.inl rfl) (pe_op op_catA (pv 4) (pe_tup (pa_cons (pv 6) pa_nil)))))))
    (pss_one (ps_for PassesOwn.never rfl (pi_enumT rfl T.z_enumerate (pa_cons (pv 3) pa_nil)) (pg_tup rfl (pgs_cons (pg_name (i := 5) sc_check_bodies.nd rfl (Or.inl rfl)) (pgs_cons (pg_tup rfl (pgs_cons (pg_name (i := 8) sc_check_bodies.nd rfl (Or.inl rfl)) (pgs_cons (pg_name (i := 7) sc_check_bodies.nd rfl (Or.inl rfl)) pgs_nil))) pgs_nil))) (pss_one (ps_expr (pe_call G_check_body (hr.mono (by omega)) rfl T.m_check_body T.F_check_body.kp T.b_check_body .nil pass0 (pa_cons (pv 7) (pa_cons (pe_make T.k_Scope G_Scope_init (hr.mono (by omega)) rfl T.m_Scope T.b_Scope_init .nil pass0 (pa_cons pe_str (pa_cons (pv 0) (pa_cons (pv 1) (pa_cons (pv 4) pa_nil))))) (pa_cons (pv 5) pa_nil)))))))))), ?_⟩
  refine ⟨_, rfl, ?_⟩
  refine ⟨_, rfl, ad, _, rfl, hA, for_enumT (K := K) (a := ad) (xs := xs) (fun i σ H' => ∃ (ar : Addr) (v5 v6 v7 : Option V), σ = [some (.ref aw), some (.ref as), some (.ref ad), some (.ref ae), some (.ref ar), v5, v6, v7, none] ∧ Same H H' ∧ SqT K H' ar ((p.sources ++ (p.derived.take i).map (·.1)).map V.str))
    ⟨as, none, none, none, rfl, Same.refl _, by simpa using hSo⟩ (fun i σ H' _ ⟨_, _, _, _, _, hs, _⟩ => SqT.same hs hA) ?_ ?_⟩
  · rintro i x σ H1 t hi ⟨ar, v5, v6, v7, rfl, hs, hR⟩ ht
    obtain ⟨qq, b, vr, hq, rfl, hB, hT⟩ := hx i x hi
    have hs1 : Same H (upd H1 t (.tup [.int (i : Nat), .ref b])) := hs.trans (Same.new ht _)
    have hR1 := SqT.same (Same.new ht (.tup [.int (i : Nat), .ref b])) hR
    refine ⟨t, _, rfl, SqT.of upd_same, rfl, _, _, rfl, _, _, rfl, ⟨b, _, rfl, SqT.same hs1 hB, rfl, _, _, rfl, _, _, rfl, rfl, ?_⟩⟩
    generalize upd H1 t (.tup [.int (i : Nat), .ref b]) = H2 at hs1 hR1
    obtain ⟨okd, hcd⟩ := okDer_get ok.der hq
    refine ⟨rfl, _, rfl, _, rfl, _, rfl, _, rfl, fun x dx hx hdx hne => ⟨x, dx, aw, as, ar, "derived", rfl, upd_same, rfl, _, rfl, ?_⟩⟩
    obtain ⟨H3, e3, s3, sc3⟩ := scope_made (C := T.c_Scope) (S := ⟨false, p.words, p.sources, p.sources ++ (p.derived.take i).map (·.1)⟩) hx hdx hne (SqT.same hs1 hW) (SqT.same hs1 hSo) hR1
    rw [show ("derived" : Str) = kdS false from rfl, e3]
    refine ⟨vr, x, _, qq.2, _, rfl, Dp.same (hs1.trans s3) hT.dp, sc3, okd, by omega, fun H4 s4 => ?_⟩
    have s24 := s3.trans s4
    refine ⟨_, rfl, _, rfl, by show 1 ≤ sizeLine; decide, fun t1 ht1 => ?_⟩
    have s25 := s24.trans (Same.new ht1 (.tup [.str qq.1]))
    refine cat_all (SqT.same s25 hR1) (SqT.of upd_same) (Nat.le_of_lt (small1000 ?_)) (fun ar2 H6 s6 hR6 => ?_)
    · have h1 := ok.s4
      have h2 := ok.d6
      simp
      omega
    · refine ⟨ar2, _, _, _, rfl, hs1.trans (s25.trans s6), ?_⟩
      rw [take_more hq]
      have hR7 : SqT K H6 ar2 (((p.sources ++ (p.derived.take i).map (·.1)).map V.str) ++ [V.str qq.1]) := hR6
      simpa using hR7
  · rintro σ H1 ⟨ar, v5, v6, v7, rfl, hs, hR⟩
    rw [hl, List.take_length] at hR
    refine ⟨_, rfl, ae, _, rfl, SqT.same hs hA2, for_enumT (K := K) (a := ae) (xs := ys) (fun i σ H' => ∃ (v5 v6 v7 v8 : Option V), σ = [some (.ref aw), some (.ref as), some (.ref ad), some (.ref ae), some (.ref ar), v5, v6, v7, v8] ∧ Same H1 H')
      ⟨v5, v6, v7, none, rfl, Same.refl _⟩ (fun i σ H' _ ⟨_, _, _, _, _, h⟩ => SqT.same (hs.trans h) hA2) ?_ ?_⟩
    · rintro i x σ H2 t hi ⟨v5, v6, v7, v8, rfl, hs2⟩ ht
      obtain ⟨qq, b, vr, hq, rfl, hB, hT⟩ := hx2 i x hi
      have hs3 : Same H1 (upd H2 t (.tup [.int (i : Nat), .ref b])) := hs2.trans (Same.new ht _)
      refine ⟨t, _, rfl, SqT.of upd_same, rfl, _, _, rfl, _, _, rfl, ⟨b, _, rfl, SqT.same (hs.trans hs3) hB, rfl, _, _, rfl, _, _, rfl, rfl, ?_⟩⟩
      generalize upd H2 t (.tup [.int (i : Nat), .ref b]) = H3 at hs3
      obtain ⟨okd, hcd⟩ := okEff_get ok.eff hq
      refine ⟨rfl, _, rfl, _, rfl, _, rfl, _, rfl, fun x dx hx hdx hne => ⟨x, dx, aw, as, ar, "effects", rfl, upd_same, rfl, _, rfl, ?_⟩⟩
      obtain ⟨H4, e4, s4, sc4⟩ := scope_made (C := T.c_Scope) (S := ⟨true, p.words, p.sources, p.cells⟩) hx hdx hne (SqT.same (hs.trans hs3) hW) (SqT.same (hs.trans hs3) hSo) (SqT.same hs3 hR)
      rw [show ("effects" : Str) = kdS true from rfl, e4]
      refine ⟨vr, x, _, qq.2, _, rfl, Dp.same ((hs.trans hs3).trans s4) hT.dp, sc4, okd, by omega, fun H5 s5 => ?_⟩
      exact ⟨_, _, _, _, rfl, hs3.trans (s4.trans s5)⟩
    · rintro σ H2 ⟨_, _, _, _, rfl, hs2⟩
      exact q H2 (hs.trans hs2)
end
end K01
namespace K01
open PySem PySem.Spec PyProof.Rows L2 Td
theorem names_parts {p : PP} (h : Names p.names) : Names p.sources ∧ Names (p.sources ++ p.derived.map (·.1)) ∧ Names ((p.sources ++ p.derived.map (·.1)) ++ p.effects.map (·.1)) := by
  have e : p.names = (p.sources ++ p.derived.map (·.1)) ++ p.effects.map (·.1) := rfl
  rw [e] at h
  have h2 := Names.sub h (List.sublist_append_left _ _)
  exact ⟨Names.sub h2 (List.sublist_append_left _ _), h2, h⟩
theorem pairs_append {K : PySem.W.Frag} {H : Hp} {xs ys : List V} {ps qs : List (Str × List Td.Row)} (h1 : TnAll K H xs (ps.map Td.pairD)) (h2 : TnAll K H ys (qs.map Td.pairD)) : TnAll K H (xs ++ ys) ((ps ++ qs).map Td.pairD) := by
  rw [List.map_append]; exact TnAll.append h1 h2
/-- only one pair bears a name -/
theorem pair_unique {ps : List (Str × List Td.Row)} (h : (ps.map (·.1)).Nodup) {q r : Str × List Td.Row} (hq : q ∈ ps) (hr : r ∈ ps) (e : q.1 = r.1) : q = r := by
  induction ps with
  | nil => cases hq
  | cons x l ih =>
    rw [List.map_cons, List.nodup_cons] at h
    rcases List.mem_cons.mp hq with rfl | hq'
    · rcases List.mem_cons.mp hr with rfl | hr'
      · rfl
      · exact absurd (e ▸ List.mem_map.mpr ⟨r, hr', rfl⟩) h.1
    · rcases List.mem_cons.mp hr with rfl | hr'
      · exact absurd (e.symm ▸ List.mem_map.mpr ⟨q, hq', rfl⟩) h.1
      · exact ih h.2 hq' hr'
section
variable {P : Program} {w : World} {K : PySem.W.Frag} {mg : Str → Option Value} {base : Heap}
theorem ok_check_parts (T : Tops w K mg) (G_are_names : FnOk P w K mg base CX0 2 T.a_are_names T.d_are_names ["value", "least", "most"] (spAreNames K))
    (G_are_named_pairs : FnOk P w K mg base CX0 2 T.a_are_named_pairs T.d_are_named_pairs ["value", "most", "taken"] (spNamedPairs K))
    (G_names_of : FnOk P w K mg base CX0 1 T.a_names_of T.d_names_of ["pairs"] (spNamesOf K)) :
    FnOk P w K mg base CX0 3 T.a_check_parts T.d_check_parts ["words", "sources", "derived", "effects"] (spBodies K) := by
  refine T.F_check_parts.ok sc_check_parts (fun vs H Q E h => ?_) (fun cdv A outer s H vs Q E hr h => ?_)
  · obtain ⟨aw, as, vd, ve, p, m, rfl, _⟩ := h
    rfl
  obtain ⟨aw, as, vd, ve, p, m, rfl, hW, hSo, hDe, hEf, ok, hm, q⟩ := h
  obtain ⟨n1, n2, n3⟩ := names_parts ok.nn
  have w2 := ok.w2
  have w4 := ok.w4
  have s1 := ok.s1
  have s4 := ok.s4
  have d6 := ok.d6
  have e4 := ok.e4
  refine ⟨_, (pss_cons (ps_if (pt_not (pt_val (pe_call G_are_names (hr.mono (by omega)) rfl T.m_are_names T.F_are_names.kp T.b_are_names .nil pass0 (pa_cons (pv 0) (pa_cons (pe_glob (v := .int 2) rfl T.c_LEAST_WORDS ⟨_, rfl⟩) (pa_cons (pe_glob (v := .int 4) rfl T.c_MOST_WORDS ⟨_, rfl⟩) pa_nil)))))) (pss_one ps_never) pss_nil)
    (pss_cons (ps_if (pt_not (pt_val (pe_call G_are_names (hr.mono (by omega)) rfl T.m_are_names T.F_are_names.kp T.b_are_names .nil pass0 (pa_cons (pv 1) (pa_cons (pe_glob (v := .int 1) rfl T.c_LEAST_SOURCES ⟨_, rfl⟩) (pa_cons (pe_glob (v := .int 4) rfl T.c_MOST_SOURCES ⟨_, rfl⟩) pa_nil)))))) (pss_one ps_never) pss_nil)
    (pss_cons (ps_if (pt_not (pt_val (pe_call G_are_named_pairs (hr.mono (by omega)) rfl T.m_are_named_pairs T.F_are_named_pairs.kp T.b_are_named_pairs .nil pass0 (pa_cons (pv 2) (pa_cons (pe_glob (v := .int 6) rfl T.c_MOST_DERIVED ⟨_, rfl⟩) (pa_cons (pv 1) pa_nil)))))) (pss_one ps_never) pss_nil)
    (pss_one (ps_if (pt_not (pt_val (pe_call G_are_named_pairs (hr.mono (by omega)) rfl T.m_are_named_pairs T.F_are_named_pairs.kp T.b_are_named_pairs .nil pass0 (pa_cons (pv 3) (pa_cons (pe_glob (v := .int 4) rfl T.c_MOST_EFFECTS ⟨_, rfl⟩) (pa_cons (pe_op op_catA (pv 1) (pe_call G_names_of (hr.mono (by omega)) rfl T.m_names_of T.F_names_of.kp T.b_names_of .nil pass0 (pa_cons (pv 2) pa_nil))) pa_nil)))))) (pss_one ps_never) pss_nil))))), ?_⟩
  refine ⟨_, rfl, aw, p.words, _, _, rfl, hW, ok.wn, by omega, by omega, by omega, fun H1 h1 => ⟨_, rfl, if_false_of rfl ?_⟩⟩
  refine ⟨_, rfl, as, p.sources, _, _, rfl, SqT.same h1 hSo, n1, by omega, by omega, by omega, fun H2 h2 => ⟨_, rfl, if_false_of rfl ?_⟩⟩
  have h12 := h1.trans h2
  refine ⟨_, rfl, _, rfl, vd, as, p.derived, p.sources, _, rfl, Tn.same h12 hDe, SqT.same h12 hSo, n2, by omega, by omega, by omega, fun H3 h3 => ⟨_, rfl, if_false_of rfl ?_⟩⟩
  have h13 := h12.trans h3
  refine ⟨_, rfl, _, rfl, _, rfl, vd, p.derived, rfl, Tn.same h13 hDe, by omega, fun b H4 h4 hb => ?_⟩
  have h14 := h13.trans h4
  refine cat_all (SqT.same h14 hSo) hb (Nat.le_of_lt (small1000 (by rw [List.length_map, List.length_map]; omega))) (fun c H5 h5 hc => ?_)
  refine ⟨ve, c, p.effects, p.sources ++ p.derived.map (·.1), _, rfl, Tn.same (h14.trans h5) hEf, ?_, n3, by omega, by omega, by rw [List.length_append, List.length_map]; omega, fun H6 h6 => ⟨_, rfl, if_false_of rfl ?_⟩⟩
  · have hc' : SqT K H5 c (p.sources.map V.str ++ p.derived.map fun q => V.str q.1) := hc
    rw [List.map_append, List.map_map]; exact hc'
  · exact q H6 ((h14.trans h5).trans h6)
/-- an object amid its making -/
theorem made_same {H0 H2 H3 : Hp} {x : Addr} {o o1 : HO} (s : Same H0 H2) (hx : H0 x = some o) (s3 : Same (upd H2 x o1) H3) : Same H0 (upd H3 x o) := fun b u e => by
  by_cases eb : b = x
  · subst eb; rw [hx] at e; rw [upd_same]; exact e
  · rw [upd_ne eb]; exact s3 _ _ (by rw [upd_ne eb]; exact s _ _ e)
theorem ok_program (T : Tops w K mg) (G_check_parts : FnOk P w K mg base CX0 3 T.a_check_parts T.d_check_parts ["words", "sources", "derived", "effects"] (spBodies K))
    (G_check_bodies : FnOk P w K mg base CX0 9 T.a_check_bodies T.d_check_bodies ["words", "sources", "derived", "effects"] (spBodies K))
    (G_names_of : FnOk P w K mg base CX0 1 T.a_names_of T.d_names_of ["pairs"] (spNamesOf K)) :
    FnOk P w K mg base CX0 10 T.a_Program_init T.d_Program_init ["self", "words", "sources", "derived", "effects"] (spProgram K T.c_Program) := by
  refine T.F_Program_init.ok sc_Program_init (fun vs H Q E h => ?_) (fun cdv A outer s H vs Q E hr h => ?_)
  · obtain ⟨x, dx, aw, as, vd, ve, p, m, rfl, _⟩ := h
    rfl
  obtain ⟨x, dx, aw, as, vd, ve, p, m, rfl, hx, hW, hSo, hDe, hEf, ok, hm, q⟩ := h
  refine ⟨_, (pss_cons (ps_expr (pe_call G_check_parts (hr.mono (by omega)) rfl T.m_check_parts T.F_check_parts.kp T.b_check_parts .nil pass0 (pa_cons (pv 1) (pa_cons (pv 2) (pa_cons (pv 3) (pa_cons (pv 4) pa_nil))))))
    (pss_cons (ps_expr (pe_call G_check_bodies (hr.mono (by omega)) rfl T.m_check_bodies T.F_check_bodies.kp T.b_check_bodies .nil pass0 (pa_cons (pv 1) (pa_cons (pv 2) (pa_cons (pv 3) (pa_cons (pv 4) pa_nil))))))
    (pss_cons (ps_fld (pv 0) (pv 1) rfl)
    (pss_cons (ps_fld (pv 0) (pv 2) rfl)
    (pss_cons (ps_fld (pv 0) (pv 3) rfl)
    (pss_cons (ps_fld (pv 0) (pv 4) rfl)
    (pss_cons (ps_fld (pv 0) (pe_call G_names_of (hr.mono (by omega)) rfl T.m_names_of T.F_names_of.kp T.b_names_of .nil pass0 (pa_cons (pv 3) pa_nil)) rfl)
    (pss_one (ps_fld (pv 0) (pe_call G_names_of (hr.mono (by omega)) rfl T.m_names_of T.F_names_of.kp T.b_names_of .nil pass0 (pa_cons (pv 4) pa_nil)) rfl))))))))), ?_⟩
  refine ⟨_, rfl, _, rfl, _, rfl, _, rfl, aw, as, vd, ve, p, m, rfl, hW, hSo, hDe, hEf, ok, hm, fun H1 h1 => ?_⟩
  refine ⟨_, rfl, _, rfl, _, rfl, _, rfl, aw, as, vd, ve, p, m, rfl, SqT.same h1 hW, SqT.same h1 hSo, Tn.same h1 hDe, Tn.same h1 hEf, ok, hm, fun H2 h2 => ?_⟩
  have h12 := h1.trans h2
  refine ⟨_, rfl, _, rfl, x, T.c_Program, dx, [], rfl, h12 _ _ hx, T.l_Program, T.n_Program_words, by show 0 < 1000; decide, ?_⟩
  refine ⟨_, rfl, _, rfl, x, T.c_Program, dx, _, rfl, upd_same, T.l_Program, T.n_Program_sources, by show 1 < 1000; decide, ?_⟩
  rw [upd_upd]
  refine ⟨_, rfl, _, rfl, x, T.c_Program, dx, _, rfl, upd_same, T.l_Program, T.n_Program_derived, Nat.lt_of_le_of_lt (m := 2) (Nat.le_of_eq (by kernel_rfl)) (by decide), ?_⟩
  rw [upd_upd]
  refine ⟨_, rfl, _, rfl, x, T.c_Program, dx, _, rfl, upd_same, T.l_Program, T.n_Program_effects, Nat.lt_of_le_of_lt (m := 3) (Nat.le_of_eq (by kernel_rfl)) (by decide), ?_⟩
  rw [upd_upd]
  have d6 := ok.d6
  have e4 := ok.e4
  have hx2 := h12 _ _ hx
  have tk0 : ∀ o : HO, TK H2 (upd H2 x o) := fun o => TK.upd (by rw [hx2]; trivial)
  refine ⟨_, rfl, vd, p.derived, rfl, Tn.keep (tk0 _) (Tn.same h12 hDe), by omega, fun t1 H3 s3 ht1 => ?_⟩
  have hx3 := s3 _ _ upd_same
  refine ⟨_, rfl, x, T.c_Program, dx, _, rfl, hx3, T.l_Program, T.n_Program__derived_names, Nat.lt_of_le_of_lt (m := 4) (Nat.le_of_eq (by kernel_rfl)) (by decide), ?_⟩
  have tk1 : ∀ o : HO, TK H3 (upd H3 x o) := fun o => TK.upd (by rw [hx3]; trivial)
  refine ⟨_, rfl, ve, p.effects, rfl, Tn.keep (tk1 _) (Tn.same s3 (Tn.keep (tk0 _) (Tn.same h12 hEf))), by omega, fun t2 H4 s4 ht2 => ?_⟩
  have hx4 := s4 _ _ upd_same
  refine ⟨_, rfl, x, T.c_Program, dx, _, rfl, hx4, T.l_Program, T.n_Program__effect_names, Nat.lt_of_le_of_lt (m := 5) (Nat.le_of_eq (by kernel_rfl)) (by decide), ?_⟩
  have tk2 : ∀ o : HO, TK H4 (upd H4 x o) := fun o => TK.upd (by rw [hx4]; trivial)
  have sH := made_same (made_same h12 hx s3) hx (by rw [upd_upd]; exact s4)
  rw [progF_put]
  have q2 := q t1 t2 _ sH
  rw [upd_upd] at q2
  exact q2 (SqT.tk (tk2 _) (SqT.same s4 (SqT.tk (tk1 _) ht1))) (SqT.tk (tk2 _) ht2)
theorem ok_body (T : Tops w K mg) : FnOk P w K mg base CX0 1 T.a_Program_body T.d_Program_body ["self", "name"] (spBodyOf K T.c_Program) := by
  refine T.F_Program_body.ok sc_Program_body (fun vs H Q E h => ?_) (fun cdv A outer s H vs Q E hr h => ?_)
  · obtain ⟨pa, z, p, m, qq, rfl, _⟩ := h
    rfl
  obtain ⟨pa, z, p, m, qq, rfl, hP, ok, hin, rfl, q⟩ := h
  obtain ⟨dx, aw, as, vd, ve, ⟨dn, en, e, hdn, hen⟩, h1, h2, h3, h4⟩ := hP.ex
  obtain ⟨ad, xs, rfl, hA, hTA⟩ := Tn.tup_inv h3
  obtain ⟨ae, ys, rfl, hA2, hTA2⟩ := Tn.tup_inv h4
  have d6 := ok.d6
  have e4 := ok.e4
  have lx := hTA.length
  have ly := hTA2.length
  rw [List.length_map] at lx ly
  refine ⟨_, (pss_cons (ps_for PassesOwn.never rfl (pi_tup (pe_op op_catA (pe_fld (pv 0) rfl) (pe_fld (pv 0) rfl))) (pg_tup rfl (pgs_cons (pg_name (i := 2) sc_Program_body.nd rfl (Or.inl rfl)) (pgs_cons (pg_name (i := 3) sc_Program_body.nd rfl (Or.inl rfl)) pgs_nil))) (pss_one (ps_if (pt_cmpR op_eq (pv 2) (pv 1) (nomark _)) (pss_one (ps_ret (pv 3))) pss_nil)))
    (pss_one ps_never)), ?_⟩
  refine ⟨_, rfl, pa, _, dx, _, _, rfl, e, T.l_Program, T.n_Program_derived, progF_derived .., _, rfl, pa, _, dx, _, _, rfl, e, T.l_Program, T.n_Program_effects, progF_effects .., ?_⟩
  refine cat_all hA hA2 (Nat.le_of_lt (small1000 (by omega))) (fun c H1 s1 hc => ?_)
  have hT : Tn K H1 (.ref c) (pairsD (p.derived ++ p.effects)) := .tup hc (TnAll.keep (TK.of_same s1) (pairs_append hTA hTA2))
  obtain ⟨c', zs, e2, hC, hl, hx⟩ := pairs_at hT
  cases e2
  have nd : ((p.derived ++ p.effects).map (·.1)).Nodup := by
    have := ok.nn.nd
    unfold PP.names at this
    rw [List.append_assoc] at this
    rw [List.map_append]
    exact this.sublist (List.sublist_append_right _ _)
  refine ⟨c, rfl, ⟨_, hC⟩, for_tup (K := K) (a := c) (xs := zs) (fun i σ H' => ∃ (v2 v3 : Option V), σ = [some (.ref pa), some (.str qq.1), v2, v3] ∧ Same H1 H' ∧ ∀ j r, j < i → (p.derived ++ p.effects)[j]? = some r → r.1 ≠ qq.1)
    ⟨none, none, rfl, Same.refl _, fun j r h => absurd h (Nat.not_lt_zero j)⟩ (fun i σ H' _ ⟨_, _, _, hs, _⟩ => SqT.same hs hC) ?_ ?_⟩
  · rintro i x σ H2 hi ⟨v2, v3, rfl, hs, hno⟩
    obtain ⟨r, b, vr, hr1, rfl, hB, hR⟩ := hx i x hi
    refine ⟨b, _, rfl, SqT.same hs hB, rfl, _, _, rfl, _, _, rfl, rfl, ?_⟩
    refine ⟨_, rfl, _, rfl, rfl, _, rfl, ?_⟩
    by_cases en : r.1 = qq.1
    · refine if_true_of (by rw [en]; exact decide_eq_true rfl) ?_
      have hrq : r = qq := pair_unique nd (List.mem_of_getElem? hr1) hin en
      subst hrq
      exact ⟨_, rfl, q vr H2 (s1.trans hs) (Tn.same hs hR)⟩
    · refine if_false_of (decide_eq_false (fun h => en (by injection h))) ⟨_, _, rfl, hs, fun j r' hj hr' => ?_⟩
      by_cases ej : j = i
      · subst ej; rw [hr1] at hr'; cases hr'; exact en
      · exact hno j r' (by omega) hr'
  · rintro σ H2 ⟨v2, v3, rfl, hs, hno⟩
    obtain ⟨j, hj⟩ := List.getElem?_of_mem hin
    exact absurd rfl (hno j qq (by rw [hl]; exact (List.getElem?_eq_some_iff.mp hj).1) hj)
def spEffectNames (K : PySem.W.Frag) (C : Addr) : Sp := fun vs H Q _ => ∃ (pa : Addr) (p : PP) (m : Nat), vs = [.ref pa] ∧ ProgAt K H C pa p ∧ p.Ok m ∧
  ∀ t H', Same H H' → SqT K H' t (p.effects.map fun r => V.str r.1) → Q (.ref t) H'
theorem ok_effect_names (T : Tops w K mg) :
    FnOk P w K mg base CX0 2 T.a_Program_effect_names T.d_Program_effect_names ["self"] (spEffectNames K T.c_Program) := by
  refine T.F_Program_effect_names.ok sc_Program_effect_names (fun vs H Q E h => ?_) (fun cdv A outer s H vs Q E hr h => ?_)
  · obtain ⟨pa, p, m, rfl, _⟩ := h
    rfl
  obtain ⟨pa, p, m, rfl, hP, ok, q⟩ := h
  obtain ⟨dx, aw, as, vd, ve, ⟨dn, en, e, hdn, hen⟩, h1, h2, h3, h4⟩ := hP.ex
  have e4 := ok.e4
  refine ⟨_, (pss_one (ps_ret (pe_fld (pv 0) rfl))), ?_⟩
  exact ⟨_, rfl, pa, _, dx, _, _, rfl, e, T.l_Program, T.n_Program__effect_names, progF_en .., q en H (Same.refl _) hen⟩
end
end K01
namespace K01
open PySem PySem.Spec PyProof.Rows L2 Td
/-! ### data of any shape, not large -/
def smB : Nat → PyData → Bool
  | 0, _ => false
  | _ + 1, .none => true
  | _ + 1, .bool _ => true
  | _ + 1, .int _ => true
  | _ + 1, .str z => decide (z.length ≤ 100) && PyData.strOk z
  | k + 1, .list ds => decide (ds.length ≤ 100) && ds.all (smB k)
  | k + 1, .tuple ds => decide (ds.length ≤ 100) && ds.all (smB k)
  | _ + 1, .dict _ => false
theorem sm_all {k : Nat} : ∀ ds : List PyData, (∀ x ∈ ds, x.canLay0 = true ∧ x.depth ≤ k) → PyData.canLayAll0 ds = true ∧ PyData.depthAll ds ≤ k
  | [], _ => ⟨rfl, by simp [PyData.depthAll]⟩
  | d :: ds, h => by
    have h1 := h d List.mem_cons_self
    have h2 := sm_all ds fun x hx => h x (List.mem_cons_of_mem _ hx)
    refine ⟨?_, ?_⟩
    · simp only [PyData.canLayAll0, h1.1, h2.1]; rfl
    · have := h1.2; have := h2.2; simp only [PyData.depthAll]; omega
theorem sm_lay : ∀ (k : Nat) (d : PyData), smB k d = true → d.canLay0 = true ∧ d.depth ≤ k
  | 0, d, h => by simp [smB] at h
  | k + 1, .none, _ => ⟨by simp only [PyData.canLay0], by simp [PyData.depth]⟩
  | k + 1, .bool _, _ => ⟨by simp only [PyData.canLay0], by simp [PyData.depth]⟩
  | k + 1, .int _, _ => ⟨by simp only [PyData.canLay0], by simp [PyData.depth]⟩
  | k + 1, .str z, h => by
    simp only [smB, Bool.and_eq_true] at h
    exact ⟨by simp only [PyData.canLay0, h.2], by simp [PyData.depth]⟩
  | k + 1, .list ds, h => by
    simp only [smB, Bool.and_eq_true, List.all_eq_true] at h
    have := sm_all ds fun x hx => sm_lay k x (h.2 x hx)
    exact ⟨by simp only [PyData.canLay0, this.1], by simp only [PyData.depth]; omega⟩
  | k + 1, .tuple ds, h => by
    simp only [smB, Bool.and_eq_true, List.all_eq_true] at h
    have := sm_all ds fun x hx => sm_lay k x (h.2 x hx)
    exact ⟨by simp only [PyData.canLay0, this.1], by simp only [PyData.depth]; omega⟩
theorem sm_tup {k : Nat} {ds : List PyData} (h : smB (k + 1) (.tuple ds) = true) : ds.length ≤ 100 ∧ ∀ x ∈ ds, smB k x = true := by
  simp only [smB, Bool.and_eq_true, List.all_eq_true, decide_eq_true_eq] at h
  exact h
theorem sm_str {k : Nat} {z : Str} (h : smB (k + 1) (.str z) = true) : z.length ≤ 100 := by
  simp only [smB, Bool.and_eq_true, decide_eq_true_eq] at h
  exact h.1
def isNmD : PyData → Bool
  | .str z => isNm z
  | _ => false
def strOf : PyData → Option Str
  | .str z => some z
  | _ => none
def strsOf (ds : List PyData) : List Str := ds.filterMap strOf
theorem strsOf_all : ∀ ds : List PyData, ds.all isNmD = true → ds = (strsOf ds).map PyData.str
  | [], _ => rfl
  | d :: ds, h => by
    rw [List.all_cons, Bool.and_eq_true] at h
    have ih := strsOf_all ds h.2
    cases d with
    | str z =>
      show PyData.str z :: ds = ((strOf (.str z)).toList ++ strsOf ds).map PyData.str
      conv => lhs; rw [ih]
      rfl
    | _ => exact absurd h.1 (by simp [isNmD])
def namesD (l m : Int) : PyData → Bool
  | .tuple ds => decide (l ≤ (ds.length : Int)) && (decide ((ds.length : Int) ≤ m) && (ds.all isNmD && decide (strsOf ds).Nodup))
  | _ => false
/-- the name of a pair -/
def pairNm : PyData → Option Str
  | .tuple [.str z, _] => if isNm z = true then some z else none
  | _ => none
def goP : List Str → List PyData → Bool
  | _, [] => true
  | bf, d :: ds => match pairNm d with
    | some z => !decide (z ∈ bf) && goP (bf ++ [z]) ds
    | none => false
def pairsOk (m : Int) (ts : List Str) : PyData → Bool
  | .tuple ds => decide ((ds.length : Int) ≤ m) && goP ts ds
  | _ => false
def spIsNmD (K : PySem.W.Frag) : Sp := fun vs H Q _ => ∃ (v : V) (d : PyData) (k : Nat), vs = [v] ∧ Dp K H v d ∧ smB k d = true ∧ ∀ H', Same H H' → Q (.bl (isNmD d)) H'
def spNamesD (K : PySem.W.Frag) : Sp := fun vs H Q _ => ∃ (v : V) (d : PyData) (k : Nat) (l m : Int), vs = [v, .int l, .int m] ∧ Dp K H v d ∧ smB k d = true ∧ ∀ H', Same H H' → Q (.bl (namesD l m d)) H'
def spPairsD (K : PySem.W.Frag) : Sp := fun vs H Q _ => ∃ (v : V) (d : PyData) (k : Nat) (m : Int) (tk : Addr) (ts : List Str), vs = [v, .int m, .ref tk] ∧ Dp K H v d ∧ smB k d = true ∧ SqT K H tk (ts.map V.str) ∧ ts.length ≤ 100 ∧ ∀ H', Same H H' → Q (.bl (pairsOk m ts d)) H'
theorem ty_lst {K : PySem.W.Frag} {H : Hp} {a : Addr} {xs : List V} (h : SqL K H a xs) : TyX K H (.ref a) (.type "list") := by
  rcases h with (h | ⟨o, h⟩) | ⟨o, its, n, h, c, _⟩
  · exact .base (.lst h)
  · exact .base (.frz h)
  · exact .kList h c
/-- the type of a datum -/
def tyD : PyData → String
  | .none => "NoneType"
  | .bool _ => "bool"
  | .int _ => "int"
  | .str _ => "str"
  | .list _ => "list"
  | .tuple _ => "tuple"
  | .dict _ => "dict"
theorem ty_data {K : PySem.W.Frag} {H : Hp} {v : V} {d : PyData} (h : Dp K H v d) : TyX K H v (.type (tyD d)) := by
  cases h with
  | non => exact .base .non
  | bl b => exact .base (.bl b)
  | int i => exact .base (.int i)
  | str z => exact .base (.str z)
  | lst hL _ => exact ty_lst hL
  | tup hT _ => exact ty_tup hT
section
variable {P : Program} {w : World} {K : PySem.W.Frag} {mg : Str → Option Value} {base : Heap}
theorem ok_is_nameD (T : Tops w K mg) : FnOk P w K mg base CX0 1 T.a_is_name T.d_is_name ["value"] (spIsNmD K) := by
  refine T.F_is_name.ok sc_is_name (fun vs H Q E h => ?_) (fun cdv A outer s H vs Q E hr h => ?_)
  · obtain ⟨v, d, k, rfl, _⟩ := h
    rfl
  obtain ⟨v, d, k, rfl, hD, hs, q⟩ := h
  refine ⟨_, (pss_cons (ps_if (PW.pt (pw_or (pt_not (pt_val (pe_callB call_isi rfl T.z_isinstance (by decide +kernel) (pa_cons (pv 0) (pa_cons (pe_bltn (v := .ty "str") rfl T.z_str (by decide +kernel) rfl) pa_nil))))) (pw_or1 (pt_not (pt_chain op_le op_le pe_int (pe_callB call_len rfl T.z_len PySem.boot_len (pa_cons (pv 0) pa_nil)) (pe_glob (v := .int 8) rfl T.c_LONGEST_NAME ⟨_, rfl⟩)))))) (pss_one (ps_ret pe_bl)) pss_nil)
    (pss_one (ps_ret (pe_callB (cr_all rfl) rfl T.z_all (by decide +kernel) (pa_cons (pe_lc (own := [("letter", 1)]) (g := gName 1) (tt := tYes) rfl sc_is_name.nd (pi_str (pv 0)) (blkOk_by (own := [("letter", 1)]) (N := N_is_name) (sc := defScope s_is_name) (by decide +kernel)) (fun _ _ _ _ _ => (pg_name (i := 1) sc_is_name.nd rfl (Or.inl rfl))) (fun _ _ _ _ _ => pts_nil) (fun _ _ _ _ _ => (pe_chain op_le_str op_le_str pe_str (pv 1) pe_str))) pa_nil))))), ?_⟩
  cases hD with
  | non => exact ⟨_, rfl, .non, .ty "str", .type "NoneType", .type "str", false, rfl, .ty _, .base .non, kit_ty (by decide +kernel), false, rfl, iteT (q H (Same.refl _))⟩
  | bl b => exact ⟨_, rfl, .bl b, .ty "str", .type "bool", .type "str", false, rfl, .ty _, .base (.bl b), kit_ty (by decide +kernel), false, rfl, iteT (q H (Same.refl _))⟩
  | int i => exact ⟨_, rfl, .int i, .ty "str", .type "int", .type "str", false, rfl, .ty _, .base (.int i), kit_ty (by decide +kernel), false, rfl, iteT (q H (Same.refl _))⟩
  | @lst a xs ds hL _ => exact ⟨_, rfl, .ref a, .ty "str", .type "list", .type "str", false, rfl, .ty _, ty_lst hL, kit_ty (by decide +kernel), false, rfl, iteT (q H (Same.refl _))⟩
  | @tup a xs ds hT _ => exact ⟨_, rfl, .ref a, .ty "str", .type "tuple", .type "str", false, rfl, .ty _, ty_tup hT, kit_ty (by decide +kernel), false, rfl, iteT (q H (Same.refl _))⟩
  | str z =>
    have z100 : z.length ≤ 100 := by
      cases k with
      | zero => simp [smB] at hs
      | succ k => exact sm_str hs
    have zs : z.length ≤ sizeLine := Nat.le_of_lt (small1000 (by omega))
    refine ⟨_, rfl, .str z, .ty "str", .type "str", .type "str", true, rfl, .ty _, .base (.str z), kit_ty (by decide +kernel), true, rfl, iteF ?_⟩
    refine ⟨_, rfl, .str z, _, rfl, ⟨zs, rfl⟩, _, _, rfl, rfl, _, rfl, ?_⟩
    by_cases c1 : 1 ≤ z.length
    · have e1 : decide ((1 : Int) ≤ (z.length : Int)) = true := decide_eq_true (by omega)
      refine if_true_of e1 ?_
      refine ⟨_, _, rfl, rfl, _, rfl, ?_⟩
      by_cases c8 : z.length ≤ 8
      · have e2 : decide ((z.length : Int) ≤ (8 : Int)) = true := decide_eq_true (by omega)
        refine if_false_of (by rw [e2]; rfl) ?_
        have ez : isNm z = z.cps.toList.all lowc := by
          unfold isNm
          rw [decide_eq_true c1, decide_eq_true c8]
          rfl
        refine ⟨_, rfl, z, rfl, fun D hD => lc_str (fun i H' => Same H H' ∧ H' D = some (.lst (((z.cps.toList.take i).map lowc).map V.bl))) ⟨Same.new hD _, upd_same⟩ ?_ ?_⟩
        · rintro i c H' hc ⟨hs', hb⟩
          have na : ("a" : Str).cps.toList = [97] := by decide +kernel
          have nz : ("z" : Str).cps.toList = [122] := by decide +kernel
          have hct : z.cps.toList[i]? = some c := by rw [Array.getElem?_toList]; exact hc
          have hic : i < z.cps.toList.length := (List.getElem?_eq_some_iff.mp hct).1
          have hz8 : z.cps.toList.length ≤ 8 := c8
          have k1 : (!decide ((⟨#[c]⟩ : Str).cps.toList < ("a" : Str).cps.toList)) = decide (97 ≤ c) := by
            rw [na]
            show (!decide ([c] < [97])) = _
            by_cases h : 97 ≤ c
            · simp [List.cons_lt_cons_iff, h]
            · have h' : c < 97 := by omega
              simp [List.cons_lt_cons_iff, h, h']
          have k2 : (!decide (("z" : Str).cps.toList < (⟨#[c]⟩ : Str).cps.toList)) = decide (c ≤ 122) := by
            rw [nz]
            show (!decide ([122] < [c])) = _
            by_cases h : c ≤ 122
            · simp [List.cons_lt_cons_iff, h]
            · have h' : 122 < c := by omega
              simp [List.cons_lt_cons_iff, h, h']
          have next : Same H (upd H' D (.lst (((z.cps.toList.take i).map lowc).map V.bl ++ [.bl (lowc c)]))) ∧ upd H' D (.lst (((z.cps.toList.take i).map lowc).map V.bl ++ [.bl (lowc c)])) D = some (.lst (((z.cps.toList.take (i + 1)).map lowc).map V.bl)) :=
            ⟨own_same hs' hD, by rw [upd_same, take_more hct, List.map_append, List.map_append]; rfl⟩
          refine ⟨rfl, ?_⟩
          refine tYes_of ?_
          refine ⟨_, rfl, _, _, rfl, rfl, _, rfl, ?_⟩
          by_cases h1 : 97 ≤ c
          · refine if_true_of (k1.trans (decide_eq_true h1)) ?_
            refine ⟨_, _, rfl, rfl, _, hb, small1000 (by rw [List.length_map, List.length_map, List.length_take]; omega), ?_⟩
            have e : lowc c = (!decide (("z" : Str).cps.toList < (⟨#[c]⟩ : Str).cps.toList)) := by rw [k2]; unfold lowc; rw [decide_eq_true h1]; rfl
            rw [e] at next
            exact next
          · refine if_false_of (k1.trans (decide_eq_false h1)) ?_
            refine ⟨_, hb, small1000 (by rw [List.length_map, List.length_map, List.length_take]; omega), ?_⟩
            have e : lowc c = false := by unfold lowc; rw [decide_eq_false h1]; rfl
            rw [e] at next
            exact next
        · rintro H' ⟨hs', hb⟩
          have hb' : H' D = some (.lst ((z.cps.toList.map lowc).map V.bl)) := by
            rw [List.take_of_length_le (by rw [Array.length_toList]; exact Nat.le_refl _)] at hb
            exact hb
          refine ⟨D, _, rfl, SqL.of hb', ?_⟩
          have e : ((z.cps.toList.map lowc).all id) = isNm z := by rw [ez, List.all_map]; rfl
          rw [e]
          exact q H' hs'
      · have e2 : decide ((z.length : Int) ≤ (8 : Int)) = false := decide_eq_false (by omega)
        refine if_true_of (by rw [e2]; rfl) ?_
        have ez : isNmD (.str z) = false := by
          show isNm z = false
          unfold isNm
          rw [decide_eq_false c8, Bool.and_false]
          rfl
        have h := q H (Same.refl _)
        rw [ez] at h
        exact h
    · have e1 : decide ((1 : Int) ≤ (z.length : Int)) = false := decide_eq_false (by omega)
      refine if_false_of e1 ?_
      have ez : isNmD (.str z) = false := by
        show isNm z = false
        unfold isNm
        rw [decide_eq_false c1]
        rfl
      have h := q H (Same.refl _)
      rw [ez] at h
      exact ⟨false, rfl, if_true_of rfl h⟩
end
end K01
namespace K01
open PySem PySem.Spec PyProof.Rows L2 Td
def isTup : PyData → Bool
  | .tuple _ => true
  | _ => false
theorem isTup_ex {d : PyData} (h : isTup d = true) : ∃ ds, d = .tuple ds := by
  cases d with
  | tuple ds => exact ⟨ds, rfl⟩
  | _ => cases h
theorem kit_tuple {K : PySem.W.Frag} (d : PyData) : PySem.W.kitOne K (.type (tyD d)) (.type "tuple") = some (isTup d) := by
  cases d with
  | none => show PySem.W.kitOne K (.type "NoneType") (.type "tuple") = some false; exact kit_ty (by decide +kernel)
  | bool b => show PySem.W.kitOne K (.type "bool") (.type "tuple") = some false; exact kit_ty (by decide +kernel)
  | int i => show PySem.W.kitOne K (.type "int") (.type "tuple") = some false; exact kit_ty (by decide +kernel)
  | str z => show PySem.W.kitOne K (.type "str") (.type "tuple") = some false; exact kit_ty (by decide +kernel)
  | list ds => show PySem.W.kitOne K (.type "list") (.type "tuple") = some false; exact kit_ty (by decide +kernel)
  | tuple ds => show PySem.W.kitOne K (.type "tuple") (.type "tuple") = some true; exact kit_ty (by decide +kernel)
  | dict kvs => show PySem.W.kitOne K (.type "dict") (.type "tuple") = some false; exact kit_ty (by decide +kernel)
theorem sm_pos {k : Nat} {d : PyData} (h : smB k d = true) : ∃ j, k = j + 1 := by
  cases k with
  | zero => simp [smB] at h
  | succ j => exact ⟨j, rfl⟩
theorem namesD_no {l m : Int} {d : PyData} (h : isTup d = false) : namesD l m d = false := by
  cases d with
  | tuple ds => cases h
  | _ => rfl
theorem pairsOk_no {m : Int} {ts : List Str} {d : PyData} (h : isTup d = false) : pairsOk m ts d = false := by
  cases d with
  | tuple ds => cases h
  | _ => rfl
theorem nodup_cnt (zs : List Str) : decide (V.int (TdSet.dcnt zs zs.length : Nat) = V.int (zs.length : Nat)) = decide zs.Nodup := by
  by_cases h : zs.Nodup
  · rw [TdSet.dcnt_nodup (Nat.le_refl _) (by rw [List.take_length]; exact h), decide_eq_true h]
    exact decide_eq_true rfl
  · rw [decide_eq_false h]
    refine decide_eq_false fun e => h ?_
    have e2 : TdSet.dcnt zs zs.length = zs.length := by injection e with e; omega
    have := TdSet.dcnt_full (Nat.le_refl _) e2
    rwa [List.take_length] at this
/-- the pair's name, in the heap -/
theorem pairNm_some {d : PyData} {z : Str} (h : pairNm d = some z) : ∃ r, d = .tuple [.str z, r] ∧ isNm z = true := by
  unfold pairNm at h
  split at h
  · rename_i y r
    split at h
    · rename_i hy
      cases h
      exact ⟨r, rfl, hy⟩
    · cases h
  · cases h
theorem pairNm_none {d : PyData} (h : pairNm d = none) : isTup d = false ∨ ∃ ds, d = .tuple ds ∧ (ds.length ≠ 2 ∨ ∃ n r, ds = [n, r] ∧ isNmD n = false) := by
  by_cases ht : isTup d = true
  · obtain ⟨ds, rfl⟩ := isTup_ex ht
    refine .inr ⟨ds, rfl, ?_⟩
    by_cases h2 : ds.length = 2
    · refine .inr ?_
      match ds, h2 with
      | [n, r], _ =>
        refine ⟨n, r, rfl, ?_⟩
        cases n with
        | str z =>
          unfold pairNm at h
          dsimp only at h
          split at h
          · cases h
          · rename_i hz
            show isNm z = false
            simpa using hz
        | _ => rfl
    · exact .inl h2
  · exact .inl (by simpa using ht)
section
variable {P : Program} {w : World} {K : PySem.W.Frag} {mg : Str → Option Value} {base : Heap}
theorem ok_are_namesD (T : Tops w K mg) (G_is_name : FnOk P w K mg base CX0 1 T.a_is_name T.d_is_name ["value"] (spIsNmD K)) :
    FnOk P w K mg base CX0 2 T.a_are_names T.d_are_names ["value", "least", "most"] (spNamesD K) := by
  refine T.F_are_names.ok sc_are_names (fun vs H Q E h => ?_) (fun cdv A outer s H vs Q E hr h => ?_)
  · obtain ⟨v, d, k, l, m, rfl, _⟩ := h
    rfl
  obtain ⟨v, d, k, l, m, rfl, hD, hsm, q⟩ := h
  refine ⟨_, (pss_cons (ps_if (PW.pt (pw_or (pt_not (pt_val (pe_callB call_isi rfl T.z_isinstance (by decide +kernel) (pa_cons (pv 0) (pa_cons (pe_bltn (v := .ty "tuple") rfl T.z_tuple (by decide +kernel) rfl) pa_nil))))) (pw_or1 (pt_not (pt_chain op_le op_le (pv 1) (pe_callB call_len rfl T.z_len PySem.boot_len (pa_cons (pv 0) pa_nil)) (pv 2)))))) (pss_one (ps_ret pe_bl)) pss_nil)
    (pss_one (ps_ret (pe_and (pe_callB (cr_all rfl) rfl T.z_all (by decide +kernel) (pa_cons (pe_lc (own := [("item", 3)]) (g := gName 3) (tt := tYes) rfl sc_are_names.nd (pi_tup (pv 0)) (blkOk_by (own := [("item", 3)]) (N := N_are_names) (sc := defScope s_are_names) (by decide +kernel)) (fun _ _ _ _ _ => (pg_name (i := 3) sc_are_names.nd rfl (Or.inl rfl))) (fun _ _ _ _ _ => pts_nil) (fun _ _ _ _ _ => (pe_call G_is_name (hr.mono (by omega)) rfl T.m_is_name T.F_is_name.kp T.b_is_name .nil pass0 (pa_cons (pv 3) pa_nil)))) pa_nil)) (pe_one (pe_cmpR op_eq (pe_lenSetT rfl rfl T.z_len rfl T.z_set (pv 0)) (pe_callB call_len rfl T.z_len PySem.boot_len (pa_cons (pv 0) pa_nil)) (nomark _))))))), ?_⟩
  refine ⟨_, rfl, v, .ty "tuple", .type (tyD d), .type "tuple", _, rfl, .ty _, ty_data hD, kit_tuple d, _, rfl, ?_⟩
  by_cases ht : isTup d = true
  · rw [ht]
    obtain ⟨ds, rfl⟩ := isTup_ex ht
    obtain ⟨j, rfl⟩ := sm_pos hsm
    obtain ⟨d100, dsm⟩ := sm_tup hsm
    obtain ⟨a, xs, rfl, hS, hA⟩ := Dp.tup_inv hD
    have xl := DpAll.length hA
    refine iteF ?_
    refine ⟨_, rfl, _, rfl, .ref a, _, rfl, .inr ⟨_, hS, rfl⟩, _, _, rfl, rfl, _, rfl, ?_⟩
    by_cases c1 : l ≤ (ds.length : Int)
    · have e1 : decide (l ≤ ((xs.length : Nat) : Int)) = true := decide_eq_true (by omega)
      refine if_true_of e1 ?_
      refine ⟨_, rfl, _, _, rfl, rfl, _, rfl, ?_⟩
      by_cases c2 : (ds.length : Int) ≤ m
      · have e2 : decide (((xs.length : Nat) : Int) ≤ m) = true := decide_eq_true (by omega)
        refine if_false_of (by rw [e2]; rfl) ?_
        refine ⟨_, rfl, a, rfl, ⟨_, hS⟩, fun D hD0 => lc_tup (K := K) (a := a) (xs := xs) (fun i H' => Same H H' ∧ H' D = some (.lst (((ds.take i).map isNmD).map V.bl)))
          ⟨Same.new hD0 _, upd_same⟩ (fun i H' _ ⟨hs, _⟩ => SqT.same hs hS) ?_ ?_⟩
        · rintro i x H' hx ⟨hs, hb⟩
          obtain ⟨d0, hd0, hx0⟩ := DpAll.get hA hx
          have hi : i < ds.length := (List.getElem?_eq_some_iff.mp hd0).1
          refine ⟨rfl, tYes_of ?_⟩
          refine ⟨_, rfl, x, d0, j, rfl, Dp.same hs hx0, dsm d0 (List.mem_of_getElem? hd0), fun H4 s4 => ⟨_, s4 _ _ hb, small1000 (by rw [List.length_map, List.length_map, List.length_take]; omega), own_same (hs.trans s4) hD0, ?_⟩⟩
          rw [upd_same, take_more hd0, List.map_append, List.map_append]
          rfl
        · rintro H' ⟨hs, hb⟩
          rw [xl, List.take_length] at hb
          have hS' := SqT.same hs hS
          have eal : ((ds.map isNmD).all id) = ds.all isNmD := by rw [List.all_map]; rfl
          refine ⟨D, _, rfl, SqL.of hb, _, rfl, ?_⟩
          by_cases c3 : ds.all isNmD = true
          · refine if_true_of (eal.trans c3) ?_
            have eds := strsOf_all ds c3
            have exs : xs = (strsOf ds).map V.str := DpAll.strs_inv (by rw [← eds]; exact hA)
            have el : (strsOf ds).length = ds.length := by have := congrArg List.length eds; rw [List.length_map] at this; exact this.symm
            rw [exs] at hS'
            refine ⟨_, rfl, a, strsOf ds, rfl, hS', by omega, _, rfl, .ref a, _, rfl, .inr ⟨_, hS', rfl⟩, rfl, ?_⟩
            rw [List.length_map, nodup_cnt]
            have h := q H' hs
            have e : namesD l m (.tuple ds) = decide (strsOf ds).Nodup := by
              show (decide (l ≤ (ds.length : Int)) && (decide ((ds.length : Int) ≤ m) && (ds.all isNmD && decide (strsOf ds).Nodup))) = _
              rw [decide_eq_true c1, decide_eq_true c2, c3]
              rfl
            rw [e] at h
            exact h
          · have c3' : ds.all isNmD = false := by simpa using c3
            refine if_false_of (eal.trans c3') ?_
            have h := q H' hs
            have e : namesD l m (.tuple ds) = false := by
              show (decide (l ≤ (ds.length : Int)) && (decide ((ds.length : Int) ≤ m) && (ds.all isNmD && decide (strsOf ds).Nodup))) = _
              rw [c3']
              simp
            rw [e] at h
            exact h
      · have e2 : decide (((xs.length : Nat) : Int) ≤ m) = false := decide_eq_false (by omega)
        refine if_true_of (by rw [e2]; rfl) ?_
        have h := q H (Same.refl _)
        have e : namesD l m (.tuple ds) = false := by
          show (decide (l ≤ (ds.length : Int)) && (decide ((ds.length : Int) ≤ m) && (ds.all isNmD && decide (strsOf ds).Nodup))) = _
          rw [decide_eq_false c2]
          simp
        rw [e] at h
        exact h
    · have e1 : decide (l ≤ ((xs.length : Nat) : Int)) = false := decide_eq_false (by omega)
      refine if_false_of e1 ?_
      have h := q H (Same.refl _)
      have e : namesD l m (.tuple ds) = false := by
        show (decide (l ≤ (ds.length : Int)) && (decide ((ds.length : Int) ≤ m) && (ds.all isNmD && decide (strsOf ds).Nodup))) = _
        rw [decide_eq_false c1]
        rfl
      rw [e] at h
      exact ⟨false, rfl, if_true_of rfl h⟩
  · have ht' : isTup d = false := by simpa using ht
    rw [ht']
    have h := q H (Same.refl _)
    rw [namesD_no ht'] at h
    exact iteT h
end
end K01
namespace K01
open PySem PySem.Spec PyProof.Rows L2 Td
theorem one_of {K : PySem.W.Frag} {H : Hp} {vs : List V} {r : PyData} (h : DpAll K H vs [r]) : ∃ vr, vs = [vr] := by
  cases h with
  | cons a b => cases b; exact ⟨_, rfl⟩
theorem two_of {es : List PyData} (h : es.length = 2) : ∃ n r, es = [n, r] := by
  match es, h with
  | [n, r], _ => exact ⟨n, r, rfl⟩
section
variable {P : Program} {w : World} {K : PySem.W.Frag} {mg : Str → Option Value} {base : Heap}
theorem ok_named_pairsD (T : Tops w K mg) (G_is_name : FnOk P w K mg base CX0 1 T.a_is_name T.d_is_name ["value"] (spIsNmD K)) :
    FnOk P w K mg base CX0 2 T.a_are_named_pairs T.d_are_named_pairs ["value", "most", "taken"] (spPairsD K) := by
  refine T.F_are_named_pairs.ok sc_are_named_pairs (fun vs H Q E h => ?_) (fun cdv A outer s H vs Q E hr h => ?_)
  · obtain ⟨v, d, k, m, tk, ts, rfl, _⟩ := h
    rfl
  obtain ⟨v, d, k, m, tk, ts, rfl, hD, hsm, hTk, t100, q⟩ := h
  refine ⟨_, (pss_cons (ps_if (PW.pt (pw_or (pt_not (pt_val (pe_callB call_isi rfl T.z_isinstance (by decide +kernel) (pa_cons (pv 0) (pa_cons (pe_bltn (v := .ty "tuple") rfl T.z_tuple (by decide +kernel) rfl) pa_nil))))) (pw_or1 (pt_cmpR op_gt (pe_callB call_len rfl T.z_len PySem.boot_len (pa_cons (pv 0) pa_nil)) (pv 1) (nomark _))))) (pss_one (ps_ret pe_bl)) pss_nil)
    (pss_cons (ps_set (i := 3) sc_are_named_pairs.nd rfl (Or.inl rfl) (pe_callTy call_list_of rfl T.z_list (by decide +kernel) (pa_cons (pv 2) pa_nil)))
    (pss_cons (ps_for PassesOwn.never rfl (pi_tup (pv 0)) (pg_name (i := 4) sc_are_named_pairs.nd rfl (Or.inl rfl)) (pss_cons (ps_if (PW.pt (pw_or (pt_not (pt_val (pe_callB call_isi rfl T.z_isinstance (by decide +kernel) (pa_cons (pv 4) (pa_cons (pe_bltn (v := .ty "tuple") rfl T.z_tuple (by decide +kernel) rfl) pa_nil))))) (pw_or1 (pt_cmpR op_ne (pe_callB call_len rfl T.z_len PySem.boot_len (pa_cons (pv 4) pa_nil)) pe_int (nomark _))))) (pss_one (ps_ret pe_bl)) pss_nil)
    (pss_cons (ps_if (PW.pt (pw_or (pt_not (pt_val (pe_call G_is_name (hr.mono (by omega)) rfl T.m_is_name T.F_is_name.kp T.b_is_name .nil pass0 (pa_cons (pe_ix ix_tup (pv 4) pe_int (fun _ _ => rfl)) pa_nil)))) (pw_or1 (pt_cmpR op_in_seq (pe_ix ix_tup (pv 4) pe_int (fun _ _ => rfl)) (pv 3) (by rfl))))) (pss_one (ps_ret pe_bl)) pss_nil)
    (pss_one (ps_expr (pe_bm PySem.F.plainAttrs_list PySem.F.slot_list_append PySem.F.type_list_append mt_append (pv 3) (pa_cons (pe_ix ix_tup (pv 4) pe_int (fun _ _ => rfl)) pa_nil)))))))
    (pss_one (ps_ret pe_bl))))), ?_⟩
  refine ⟨_, rfl, v, .ty "tuple", .type (tyD d), .type "tuple", _, rfl, .ty _, ty_data hD, kit_tuple d, _, rfl, ?_⟩
  by_cases ht : isTup d = true
  · rw [ht]
    obtain ⟨ds, rfl⟩ := isTup_ex ht
    obtain ⟨j, rfl⟩ := sm_pos hsm
    obtain ⟨d100, dsm⟩ := sm_tup hsm
    obtain ⟨a, xs, rfl, hS, hA⟩ := Dp.tup_inv hD
    have xl := DpAll.length hA
    have epo : pairsOk m ts (.tuple ds) = (decide ((ds.length : Int) ≤ m) && goP ts ds) := rfl
    refine iteF ?_
    refine ⟨_, rfl, .ref a, _, rfl, .inr ⟨_, hS, rfl⟩, _, rfl, _, _, rfl, rfl, _, rfl, ?_⟩
    by_cases c1 : (ds.length : Int) ≤ m
    · refine if_false_of (decide_eq_false (by omega)) ?_
      rw [epo, decide_eq_true c1, Bool.true_and] at q
      refine ⟨_, rfl, tk, _, rfl, .inr hTk, fun l hl0 => ?_⟩
      refine ⟨_, rfl, a, rfl, ⟨_, SqT.same (Same.new hl0 _) hS⟩, for_tup (K := K) (a := a) (xs := xs) (fun i σ H' => ∃ (v4 : Option V) (zs : List Str), σ = [some (.ref a), some (.int m), some (.ref tk), some (.ref l), v4] ∧ Same H H' ∧ H' l = some (.lst ((ts ++ zs).map V.str)) ∧ zs.length = i ∧ goP ts ds = goP (ts ++ zs) (ds.drop i))
        ⟨none, [], rfl, Same.new hl0 _, by simpa using upd_same, rfl, by simp⟩ (fun i σ H' _ ⟨_, _, _, hs, _⟩ => SqT.same hs hS) ?_ ?_⟩
      · rintro i x σ H' hi ⟨v4, zs, rfl, hs, hL, zl, hg⟩
        obtain ⟨d0, hd0, hx0⟩ := DpAll.get hA hi
        have hx0' := Dp.same hs hx0
        have hid : i < ds.length := (List.getElem?_eq_some_iff.mp hd0).1
        have dm0 := dsm d0 (List.mem_of_getElem? hd0)
        have edrop : ds.drop i = d0 :: ds.drop (i + 1) := by
          rw [List.drop_eq_getElem_cons hid]
          rw [List.getElem?_eq_getElem hid] at hd0
          cases hd0
          rfl
        rw [edrop] at hg
        have hg' : goP ts ds = (match pairNm d0 with
          | some z => !decide (z ∈ ts ++ zs) && goP (ts ++ zs ++ [z]) (ds.drop (i + 1))
          | none => false) := hg
        refine ⟨_, rfl, x, .ty "tuple", .type (tyD d0), .type "tuple", _, rfl, .ty _, ty_data hx0', kit_tuple d0, _, rfl, ?_⟩
        by_cases ht0 : isTup d0 = true
        · rw [ht0]
          obtain ⟨es, rfl⟩ := isTup_ex ht0
          obtain ⟨j2, rfl⟩ := sm_pos dm0
          obtain ⟨e100, esm⟩ := sm_tup dm0
          obtain ⟨b, ys, rfl, hB, hEs⟩ := Dp.tup_inv hx0'
          have yl := DpAll.length hEs
          refine iteF ?_
          refine ⟨_, rfl, .ref b, _, rfl, .inr ⟨_, hB, rfl⟩, rfl, _, rfl, ?_⟩
          by_cases c2 : es.length = 2
          · refine if_false_of (by show (!decide (V.int ((ys.length : Nat) : Int) = V.int 2)) = false; rw [yl, c2]; decide +kernel) ?_
            obtain ⟨n, r, rfl⟩ := two_of c2
            clear yl c2
            cases hEs with
            | @cons vn _ _ _ hn hEs2 =>
              obtain ⟨vr, rfl⟩ : ∃ vr, _ = [vr] := one_of hEs2
              have smn := esm n List.mem_cons_self
              refine ⟨_, rfl, b, _, 0, _, rfl, rfl, hB, rfl, vn, n, j2, rfl, hn, smn, fun H3 s3 => ⟨isNmD n, rfl, ?_⟩⟩
              have hL3 := s3 _ _ hL
              cases hn' : isNmD n with
              | false =>
                refine iteT ?_
                have e : pairNm (.tuple [n, r]) = none := by
                  cases n with
                  | str z =>
                    show (if isNm z = true then some z else none) = none
                    have hz : isNm z = false := hn'
                    rw [hz]
                    rfl
                  | _ => rfl
                rw [e] at hg'
                have h := q H3 (hs.trans s3)
                rw [hg'] at h
                exact h
              | true =>
                refine iteF ?_
                obtain ⟨z, rfl⟩ : ∃ z, n = .str z := by
                  cases n with
                  | str z => exact ⟨z, rfl⟩
                  | _ => cases hn'
                cases hn
                have hz : isNm z = true := hn'
                have e : pairNm (.tuple [.str z, r]) = some z := by
                  show (if isNm z = true then some z else none) = some z
                  rw [hz]
                  rfl
                rw [e] at hg'
                have hg2 : goP ts ds = (!decide (z ∈ ts ++ zs) && goP (ts ++ zs ++ [z]) (ds.drop (i + 1))) := hg'
                have hB3 := SqT.same s3 hB
                refine ⟨_, rfl, b, _, 0, _, rfl, rfl, hB3, rfl, _, rfl, l, _, rfl, .inl (SqL.of hL3), rfl, L2.flat_strs _, _, rfl, ?_⟩
                by_cases hin : z ∈ ts ++ zs
                · refine if_true_of (by show (inV _ _) = true; rw [inV_strs]; exact decide_eq_true hin) ?_
                  rw [decide_eq_true hin] at hg2
                  have h := q H3 (hs.trans s3)
                  rw [hg2] at h
                  exact h
                · refine if_false_of (by show (inV _ _) = false; rw [inV_strs]; exact decide_eq_false hin) ?_
                  rw [decide_eq_false hin, Bool.not_false, Bool.true_and] at hg2
                  refine ⟨_, rfl, .inl ⟨rfl, _, SqL.of hL3⟩, _, rfl, b, _, 0, _, rfl, rfl, hB3, rfl, l, _, _, rfl, rfl, hL3, small1000 (by rw [List.length_map, List.length_append]; omega), ?_⟩
                  refine ⟨_, zs ++ [z], rfl, own_same (hs.trans s3) hl0, ?_, by rw [List.length_append, zl]; rfl, by rw [← List.append_assoc]; exact hg2⟩
                  rw [upd_same, ← List.append_assoc]
                  simp
          · refine if_true_of (by show (!decide (V.int ((ys.length : Nat) : Int) = V.int 2)) = true; rw [yl, decide_eq_false (fun e => c2 (by injection e with e; omega))]; rfl) ?_
            have e : pairNm (.tuple es) = none := by
              cases hp : pairNm (.tuple es) with
              | none => rfl
              | some z =>
                obtain ⟨r, er, _⟩ := pairNm_some hp
                cases er
                exact absurd rfl c2
            rw [e] at hg'
            have h := q H' hs
            rw [hg'] at h
            exact h
        · have ht' : isTup d0 = false := by simpa using ht0
          rw [ht']
          refine iteT ?_
          have e : pairNm d0 = none := by
            cases hp : pairNm d0 with
            | none => rfl
            | some z =>
              obtain ⟨r, er, _⟩ := pairNm_some hp
              subst er
              cases ht'
          rw [e] at hg'
          have h := q H' hs
          rw [hg'] at h
          exact h
      · rintro σ H' ⟨v4, zs, rfl, hs, hL, zl, hg⟩
        rw [xl, List.drop_length] at hg
        have h := q H' hs
        rw [hg] at h
        exact h
    · refine if_true_of (decide_eq_true (by omega)) ?_
      have h := q H (Same.refl _)
      rw [epo, decide_eq_false c1] at h
      exact h
  · have ht' : isTup d = false := by simpa using ht
    rw [ht']
    have h := q H (Same.refl _)
    rw [pairsOk_no ht'] at h
    exact iteT h
end
end K01
namespace K01
open PySem PySem.Spec PyProof.Rows L2 Td
/-- an InvalidProgram is let out -/
def RzIP (K : PySem.W.Frag) (CI : Addr) (H : Hp) (E : XK) (pt : Str) (pd : PyData) : Prop := ∀ (v : V) (d : Addr) (H' : Hp), Same H H' → Dp K H' v pd → H d = none → H' d = some (.xd [("path", v), ("part", .str pt)]) → E (.ref CI) (some d) H'
theorem RzIP.later {K : PySem.W.Frag} {CI : Addr} {H H1 : Hp} {E : XK} {pt : Str} {pd : PyData} (r : RzIP K CI H E pt pd) (s : Same H H1) : RzIP K CI H1 E pt pd := fun v d H' s' hv hd e => by
  refine r v d H' (s.trans s') hv ?_ e
  cases z : H d with
  | none => rfl
  | some o => rw [s _ _ z] at hd; cases hd
theorem RzIP.made {K : PySem.W.Frag} {CI : Addr} {H : Hp} {E : XK} {pt : Str} {pd : PyData} {v : V} (r : RzIP K CI H E pt pd) (hv : Dp K H v pd) : ∀ (d : Addr) (H' : Hp), Same H H' → H d = none → H' d = some (.xd [("path", v), ("part", .str pt)]) → E (.ref CI) (some d) H' :=
  fun d H' s hd e => r v d H' s (Dp.same s hv) hd e
def tupOf : PyData → List PyData
  | .tuple ds => ds
  | _ => []
def nmsOf (ds : List PyData) : List Str := ds.filterMap pairNm
theorem goP_names : ∀ (ds : List PyData) (bf : List Str), goP bf ds = true → ds.map pairNm = (nmsOf ds).map some ∧ (bf.Nodup → (bf ++ nmsOf ds).Nodup) ∧ ∀ z ∈ nmsOf ds, isNm z = true
  | [], bf, _ => ⟨rfl, fun h => by simpa [nmsOf] using h, fun z h => by cases h⟩
  | d :: ds, bf, h => by
    cases hp : pairNm d with
    | none =>
      have h2 : goP bf (d :: ds) = false := by show (match pairNm d with | some z => !decide (z ∈ bf) && goP (bf ++ [z]) ds | none => false) = false; rw [hp]
      rw [h2] at h
      cases h
    | some z =>
      have h2 : goP bf (d :: ds) = (!decide (z ∈ bf) && goP (bf ++ [z]) ds) := by show (match pairNm d with | some z => !decide (z ∈ bf) && goP (bf ++ [z]) ds | none => false) = _; rw [hp]
      rw [h2, Bool.and_eq_true] at h
      have hz : z ∉ bf := by simpa using h.1
      obtain ⟨i1, i2, i3⟩ := goP_names ds (bf ++ [z]) h.2
      have en : nmsOf (d :: ds) = z :: nmsOf ds := by unfold nmsOf; rw [List.filterMap_cons, hp]
      rw [en]
      refine ⟨by rw [List.map_cons, hp, i1, List.map_cons], fun nd => ?_, fun y hy => ?_⟩
      · have := i2 (List.nodup_append.mpr ⟨nd, by simp, fun a ha b hb e => by rw [List.mem_singleton.mp hb] at e; rw [e] at ha; exact hz ha⟩)
        simpa using this
      · rcases List.mem_cons.mp hy with rfl | hy
        · obtain ⟨_, _, hn⟩ := pairNm_some hp
          exact hn
        · exact i3 y hy
theorem namesD_yes {l m : Int} {d : PyData} (h : namesD l m d = true) : ∃ ds, d = .tuple ds ∧ l ≤ ds.length ∧ (ds.length : Int) ≤ m ∧ ds = (strsOf ds).map PyData.str ∧ (strsOf ds).Nodup ∧ ∀ z ∈ strsOf ds, isNm z = true := by
  cases d with
  | tuple ds =>
    have h' : (decide (l ≤ (ds.length : Int)) && (decide ((ds.length : Int) ≤ m) && (ds.all isNmD && decide (strsOf ds).Nodup))) = true := h
    simp only [Bool.and_eq_true, decide_eq_true_eq] at h'
    have e := strsOf_all ds h'.2.2.1
    refine ⟨ds, rfl, h'.1, h'.2.1, e, h'.2.2.2, fun z hz => ?_⟩
    have h2 : (PyData.str z) ∈ ds := by rw [e]; exact List.mem_map.mpr ⟨z, hz, rfl⟩
    exact List.all_eq_true.mp h'.2.2.1 _ h2
  | _ => cases h
theorem pairsOk_yes {m : Int} {ts : List Str} {d : PyData} (h : pairsOk m ts d = true) : ∃ ds, d = .tuple ds ∧ (ds.length : Int) ≤ m ∧ goP ts ds = true := by
  cases d with
  | tuple ds =>
    have h' : (decide ((ds.length : Int) ≤ m) && goP ts ds) = true := h
    simp only [Bool.and_eq_true, decide_eq_true_eq] at h'
    exact ⟨ds, rfl, h'.1, h'.2⟩
  | _ => cases h
theorem names_heap {K : PySem.W.Frag} {H : Hp} {v : V} {ds : List PyData} (h : Dp K H v (.tuple ds)) (e : ds = (strsOf ds).map PyData.str) : ∃ a, v = .ref a ∧ SqT K H a ((strsOf ds).map V.str) := by
  obtain ⟨a, xs, rfl, hS, hA⟩ := Dp.tup_inv h
  have ex : xs = (strsOf ds).map V.str := DpAll.strs_inv (by rw [← e]; exact hA)
  rw [ex] at hS
  exact ⟨a, rfl, hS⟩
def partsFault (d1 d2 d3 d4 : PyData) : Option Str :=
  if namesD 2 4 d1 = false then some "words" else if namesD 1 4 d2 = false then some "sources" else
  if pairsOk 6 (strsOf (tupOf d2)) d3 = false then some "derived" else if pairsOk 4 (strsOf (tupOf d2) ++ nmsOf (tupOf d3)) d4 = false then some "effects" else none
/-- a pair in the heap -/
theorem pair_heap {K : PySem.W.Frag} {H : Hp} {x : V} {d : PyData} {z : Str} (h : Dp K H x d) (e : pairNm d = some z) : ∃ (b : Addr) (vr : V) (r : PyData), x = .ref b ∧ SqT K H b [.str z, vr] ∧ d = .tuple [.str z, r] ∧ Dp K H vr r := by
  obtain ⟨r, rfl, _⟩ := pairNm_some e
  obtain ⟨b, ys, rfl, hB, hA⟩ := Dp.tup_inv h
  cases hA with
  | cons a1 a2 =>
    cases a1
    cases a2 with
    | cons a3 a4 => cases a4; exact ⟨b, _, r, rfl, hB, rfl, a3⟩
def spNmsOf (K : PySem.W.Frag) : Sp := fun vs H Q _ => ∃ (v : V) (ds : List PyData) (ns : List Str), vs = [v] ∧ Dp K H v (.tuple ds) ∧ ds.map pairNm = ns.map some ∧ ds.length ≤ 100 ∧ ∀ (p : Addr) H', Same H H' → SqT K H' p (ns.map V.str) → Q (.ref p) H'
def spPartsD (K : PySem.W.Frag) (CI : Addr) : Sp := fun vs H Q E => ∃ (v1 v2 v3 v4 : V) (d1 d2 d3 d4 : PyData) (k : Nat), vs = [v1, v2, v3, v4] ∧ Dp K H v1 d1 ∧ Dp K H v2 d2 ∧ Dp K H v3 d3 ∧ Dp K H v4 d4 ∧ smB k d1 = true ∧ smB k d2 = true ∧ smB k d3 = true ∧ smB k d4 = true ∧
  (partsFault d1 d2 d3 d4 = none → ∀ H', Same H H' → Q .non H') ∧ (∀ pt, partsFault d1 d2 d3 d4 = some pt → RzIP K CI H E pt (.tuple []))
section
variable {P : Program} {w : World} {K : PySem.W.Frag} {mg : Str → Option Value} {base : Heap}
theorem ok_InvalidProgram (T : Tops w K mg) : FnOk P w K mg base CX0 1 T.a_InvalidProgram_init T.d_InvalidProgram_init ["self", "part", "path"] (spExc2 K T.c_InvalidProgram "part" "path") := by
  refine T.F_InvalidProgram_init.ok sc_InvalidProgram_init (fun vs H Q E h => ?_) (fun cdv A outer s H vs Q E hr h => ?_)
  · obtain ⟨a, y1, y2, rfl, _⟩ := h
    rfl
  obtain ⟨a, y1, y2, rfl, ha, q⟩ := h
  refine ⟨_, (pss_cons (ps_ost (pv 0) (pv 1))
    (pss_one (ps_ost (pv 0) (pv 2)))), ?_⟩
  refine ⟨_, rfl, _, rfl, a, T.c_InvalidProgram, rfl, T.x_InvalidProgram, T.n_InvalidProgram_part, .inl ⟨ha, fun dx h1 h2 => ?_⟩⟩
  refine ⟨_, rfl, _, rfl, a, T.c_InvalidProgram, rfl, T.x_InvalidProgram, T.n_InvalidProgram_path, .inr ⟨dx, _, upd_same, by rw [upd_ne h2]; exact upd_same, by show 1 ≤ 900; decide, ?_⟩⟩
  exact q dx _ h1 h2 rfl
theorem ok_nms_of (T : Tops w K mg) : FnOk P w K mg base CX0 1 T.a_names_of T.d_names_of ["pairs"] (spNmsOf K) := by
  refine T.F_names_of.ok sc_names_of (fun vs H Q E h => ?_) (fun cdv A outer s H vs Q E hr h => ?_)
  · obtain ⟨v, ds, ns, rfl, _⟩ := h
    rfl
  obtain ⟨v, ds, ns, rfl, hD, hn, h100, q⟩ := h
  obtain ⟨a, xs, rfl, hA, hX⟩ := Dp.tup_inv hD
  have xl := DpAll.length hX
  have nl : ns.length = ds.length := by have := congrArg List.length hn; rw [List.length_map, List.length_map] at this; exact this.symm
  refine ⟨_, (pss_one (ps_ret (pe_callTy call_tuple_of rfl T.z_tuple (by decide +kernel) (pa_cons (pe_lc (own := [("name", 1), ("_", 2)]) (g := gTup K 2 (gCons (gName 1) (gCons (gName 2) gNil))) (tt := tYes) rfl sc_names_of.nd (pi_tup (pv 0)) (blkOk_by (own := [("name", 1), ("_", 2)]) (N := N_names_of) (sc := defScope s_names_of) (by decide +kernel)) (fun _ _ _ _ _ => (pg_tup rfl (pgs_cons (pg_name (i := 1) sc_names_of.nd rfl (Or.inl rfl)) (pgs_cons (pg_name (i := 2) sc_names_of.nd rfl (Or.inl rfl)) pgs_nil)))) (fun _ _ _ _ _ => pts_nil) (fun _ _ _ _ _ => (pv 1))) pa_nil)))), ?_⟩
  refine ⟨_, rfl, a, rfl, ⟨_, hA⟩, fun D hD0 => lc_tup (K := K) (a := a) (xs := xs) (fun i H' => Same H H' ∧ H' D = some (.lst ((ns.take i).map V.str)))
    ⟨Same.new hD0 _, upd_same⟩ (fun i H' _ ⟨hs, _⟩ => SqT.same hs hA) ?_ ?_⟩
  · rintro i x H' hi ⟨hs, hb⟩
    obtain ⟨d0, hd0, hx0⟩ := DpAll.get hX hi
    have hin : i < ns.length := by rw [nl]; exact (List.getElem?_eq_some_iff.mp hd0).1
    have hz : ns[i]? = some ns[i] := List.getElem?_eq_getElem hin
    have hp : pairNm d0 = some ns[i] := by
      have := congrArg (fun l => l[i]?) hn
      try dsimp only at this
      rw [List.getElem?_map, List.getElem?_map, hd0, hz] at this
      exact Option.some.inj this
    obtain ⟨b, vr, r, rfl, hB, _, _⟩ := pair_heap (Dp.same hs hx0) hp
    refine ⟨b, _, rfl, hB, rfl, _, _, rfl, _, _, rfl, rfl, rfl, ?_⟩
    refine tYes_of ?_
    refine ⟨_, rfl, _, hb, small1000 (by rw [List.length_map, List.length_take]; omega), own_same hs hD0, ?_⟩
    rw [upd_same, take_more hz, List.map_append]
    rfl
  · rintro H' ⟨hs, hb⟩
    rw [xl, ← nl, List.take_length] at hb
    refine ⟨D, _, rfl, .inl ⟨SqL.of hb, fun p hp => q p _ (hs.trans (Same.new hp _)) (SqT.of upd_same)⟩⟩
theorem ok_check_partsD (T : Tops w K mg) (G_are_names : FnOk P w K mg base CX0 2 T.a_are_names T.d_are_names ["value", "least", "most"] (spNamesD K))
    (G_are_named_pairs : FnOk P w K mg base CX0 2 T.a_are_named_pairs T.d_are_named_pairs ["value", "most", "taken"] (spPairsD K))
    (G_names_of : FnOk P w K mg base CX0 1 T.a_names_of T.d_names_of ["pairs"] (spNmsOf K))
    (G_InvalidProgram_init : FnOk P w K mg base CX0 1 T.a_InvalidProgram_init T.d_InvalidProgram_init ["self", "part", "path"] (spExc2 K T.c_InvalidProgram "part" "path")) :
    FnOk P w K mg base (L2.CX P w) 4 T.a_check_parts T.d_check_parts ["words", "sources", "derived", "effects"] (spPartsD K T.c_InvalidProgram) := by
  refine T.F_check_parts.okX sc_check_parts (fun vs H Q E h => ?_) (fun cdv A outer s H vs Q E hr h => ?_)
  · obtain ⟨v1, v2, v3, v4, d1, d2, d3, d4, k, rfl, _⟩ := h
    rfl
  obtain ⟨v1, v2, v3, v4, d1, d2, d3, d4, k, rfl, hD1, hD2, hD3, hD4, m1, m2, m3, m4, q, r⟩ := h
  refine ⟨_, (pss_cons (ps_if (pt_not (pt_val (pe_call G_are_names (hr.mono (by omega)) rfl T.m_are_names T.F_are_names.kp T.b_are_names .nil pass0 (pa_cons (pv 0) (pa_cons (pe_glob (v := .int 2) rfl T.c_LEAST_WORDS ⟨_, rfl⟩) (pa_cons (pe_glob (v := .int 4) rfl T.c_MOST_WORDS ⟨_, rfl⟩) pa_nil)))))) (pss_one (ps_raise rfl (takes_of rfl rfl rfl rfl) (pmk_oex T.x_InvalidProgram T.xi_InvalidProgram T.xt_InvalidProgram G_InvalidProgram_init (hr.mono (by omega)) T.b_InvalidProgram_init .nil pass0 rfl T.m_InvalidProgram (pa_cons pe_str (pa_cons (pe_tup pa_nil) pa_nil))))) pss_nil)
    (pss_cons (ps_if (pt_not (pt_val (pe_call G_are_names (hr.mono (by omega)) rfl T.m_are_names T.F_are_names.kp T.b_are_names .nil pass0 (pa_cons (pv 1) (pa_cons (pe_glob (v := .int 1) rfl T.c_LEAST_SOURCES ⟨_, rfl⟩) (pa_cons (pe_glob (v := .int 4) rfl T.c_MOST_SOURCES ⟨_, rfl⟩) pa_nil)))))) (pss_one (ps_raise rfl (takes_of rfl rfl rfl rfl) (pmk_oex T.x_InvalidProgram T.xi_InvalidProgram T.xt_InvalidProgram G_InvalidProgram_init (hr.mono (by omega)) T.b_InvalidProgram_init .nil pass0 rfl T.m_InvalidProgram (pa_cons pe_str (pa_cons (pe_tup pa_nil) pa_nil))))) pss_nil)
    (pss_cons (ps_if (pt_not (pt_val (pe_call G_are_named_pairs (hr.mono (by omega)) rfl T.m_are_named_pairs T.F_are_named_pairs.kp T.b_are_named_pairs .nil pass0 (pa_cons (pv 2) (pa_cons (pe_glob (v := .int 6) rfl T.c_MOST_DERIVED ⟨_, rfl⟩) (pa_cons (pv 1) pa_nil)))))) (pss_one (ps_raise rfl (takes_of rfl rfl rfl rfl) (pmk_oex T.x_InvalidProgram T.xi_InvalidProgram T.xt_InvalidProgram G_InvalidProgram_init (hr.mono (by omega)) T.b_InvalidProgram_init .nil pass0 rfl T.m_InvalidProgram (pa_cons pe_str (pa_cons (pe_tup pa_nil) pa_nil))))) pss_nil)
    (pss_one (ps_if (pt_not (pt_val (pe_call G_are_named_pairs (hr.mono (by omega)) rfl T.m_are_named_pairs T.F_are_named_pairs.kp T.b_are_named_pairs .nil pass0 (pa_cons (pv 3) (pa_cons (pe_glob (v := .int 4) rfl T.c_MOST_EFFECTS ⟨_, rfl⟩) (pa_cons (pe_op op_catA (pv 1) (pe_call G_names_of (hr.mono (by omega)) rfl T.m_names_of T.F_names_of.kp T.b_names_of .nil pass0 (pa_cons (pv 2) pa_nil))) pa_nil)))))) (pss_one (ps_raise rfl (takes_of rfl rfl rfl rfl) (pmk_oex T.x_InvalidProgram T.xi_InvalidProgram T.xt_InvalidProgram G_InvalidProgram_init (hr.mono (by omega)) T.b_InvalidProgram_init .nil pass0 rfl T.m_InvalidProgram (pa_cons pe_str (pa_cons (pe_tup pa_nil) pa_nil))))) pss_nil))))), ?_⟩
  have ra : ∀ {H1 : Hp} {pt : Str}, Same H H1 → partsFault d1 d2 d3 d4 = some pt → ∀ pe, H1 pe = none → ∀ (d : Addr) (H' : Hp), Same (upd H1 pe (.tup [])) H' → upd H1 pe (.tup []) d = none → H' d = some (.xd [("path", .ref pe), ("part", .str pt)]) → E (.ref T.c_InvalidProgram) (some d) H' :=
    fun s e pe hpe => ((r _ e).later (s.trans (Same.new hpe _))).made (.tup (SqT.of upd_same) .nil)
  refine ⟨_, rfl, v1, d1, k, _, _, rfl, hD1, m1, fun H1 s1 => ⟨_, rfl, ?_⟩⟩
  cases c1 : namesD 2 4 d1 with
  | false =>
    refine if_true_of rfl ?_
    have e : partsFault d1 d2 d3 d4 = some ("words" : Str) := by unfold partsFault; rw [if_pos c1]
    exact ⟨by show 0 ≤ sizeLine; decide, fun pe hpe => made_two (ra s1 e pe hpe)⟩
  | true =>
    refine if_false_of rfl ?_
    have n1 : ¬ namesD 2 4 d1 = false := by rw [c1]; exact Bool.noConfusion
    refine ⟨_, rfl, v2, d2, k, _, _, rfl, Dp.same s1 hD2, m2, fun H2 s2 => ⟨_, rfl, ?_⟩⟩
    have s12 := s1.trans s2
    cases c2 : namesD 1 4 d2 with
    | false =>
      refine if_true_of rfl ?_
      have e : partsFault d1 d2 d3 d4 = some ("sources" : Str) := by unfold partsFault; rw [if_neg n1, if_pos c2]
      exact ⟨by show 0 ≤ sizeLine; decide, fun pe hpe => made_two (ra s12 e pe hpe)⟩
    | true =>
      refine if_false_of rfl ?_
      have n2 : ¬ namesD 1 4 d2 = false := by rw [c2]; exact Bool.noConfusion
      obtain ⟨e2s, rfl, l1, l4, es, nd2, nn2⟩ := namesD_yes c2
      obtain ⟨as, rfl, hSo⟩ := names_heap hD2 es
      have sl : (strsOf e2s).length = e2s.length := by have := congrArg List.length es; rw [List.length_map] at this; exact this.symm
      have hT : strsOf (tupOf (.tuple e2s)) = strsOf e2s := rfl
      refine ⟨_, rfl, _, rfl, v3, d3, k, _, as, strsOf e2s, rfl, Dp.same s12 hD3, m3, SqT.same s12 hSo, by omega, fun H3 s3 => ⟨_, rfl, ?_⟩⟩
      have s13 := s12.trans s3
      cases c3 : pairsOk 6 (strsOf e2s) d3 with
      | false =>
        refine if_true_of rfl ?_
        have e : partsFault d1 (.tuple e2s) d3 d4 = some ("derived" : Str) := by unfold partsFault; rw [if_neg n1, if_neg n2, hT, if_pos c3]
        exact ⟨by show 0 ≤ sizeLine; decide, fun pe hpe => made_two (ra s13 e pe hpe)⟩
      | true =>
        refine if_false_of rfl ?_
        have n3 : ¬ pairsOk 6 (strsOf e2s) d3 = false := by rw [c3]; exact Bool.noConfusion
        obtain ⟨e3s, rfl, l6, g3⟩ := pairsOk_yes c3
        obtain ⟨i1, i2, i3⟩ := goP_names e3s _ g3
        have nl : (nmsOf e3s).length = e3s.length := by have := congrArg List.length i1; rw [List.length_map, List.length_map] at this; exact this.symm
        refine ⟨_, rfl, _, rfl, _, rfl, v3, e3s, nmsOf e3s, rfl, Dp.same s13 hD3, i1, by omega, fun b H4 s4 hb => ?_⟩
        have s14 := s13.trans s4
        refine cat_all (SqT.same s14 hSo) hb (Nat.le_of_lt (small1000 (by rw [List.length_map, List.length_map]; omega))) (fun c H5 s5 hc => ?_)
        have s15 := s14.trans s5
        have hc' : SqT K H5 c ((strsOf e2s ++ nmsOf e3s).map V.str) := by rw [List.map_append]; exact hc
        refine ⟨v4, d4, k, _, c, strsOf e2s ++ nmsOf e3s, rfl, Dp.same s15 hD4, m4, hc', by rw [List.length_append]; omega, fun H6 s6 => ⟨_, rfl, ?_⟩⟩
        have s16 := s15.trans s6
        have hT3 : nmsOf (tupOf (.tuple e3s)) = nmsOf e3s := rfl
        cases c4 : pairsOk 4 (strsOf e2s ++ nmsOf e3s) d4 with
        | false =>
          refine if_true_of rfl ?_
          have e : partsFault d1 (.tuple e2s) (.tuple e3s) d4 = some ("effects" : Str) := by unfold partsFault; rw [if_neg n1, if_neg n2, hT, if_neg n3, hT3, if_pos c4]
          exact ⟨by show 0 ≤ sizeLine; decide, fun pe hpe => made_two (ra s16 e pe hpe)⟩
        | true =>
          refine if_false_of rfl ?_
          have e : partsFault d1 (.tuple e2s) (.tuple e3s) d4 = none := by unfold partsFault; rw [if_neg n1, if_neg n2, hT, if_neg n3, hT3, if_neg (by rw [c4]; exact Bool.noConfusion)]
          exact q e H6 s16
end
end K01
namespace K01
open PySem PySem.Spec PyProof.Rows L2 Td
/-- rows that are right whatever the program -/
def bareD (eff : Bool) (r : PyData) : Prop := ∃ rs : List Td.Row, r = .tuple (rowsD rs) ∧ (∀ S : Sc, S.eff = eff → okRs S 1 rs) ∧ cnts rs ≤ 16
def BodyG (eff : Bool) (d : PyData) : Prop := ∃ (z : Str) (r : PyData), d = .tuple [.str z, r] ∧ (bareD eff r ∨ isTup r = false)
def rowsTup : PyData → Bool
  | .tuple [_, r] => isTup r
  | _ => false
def firstBad : Nat → List PyData → Option Nat
  | _, [] => none
  | k, d :: ds => if rowsTup d = true then firstBad (k + 1) ds else some k
def bodiesFault (ds3 ds4 : List PyData) : Option (Bool × Nat) := match firstBad 0 ds3 with
  | some i => some (false, i)
  | none => (firstBad 0 ds4).map fun i => (true, i)
theorem bare_tup {eff : Bool} {r : PyData} (h : bareD eff r) : isTup r = true := by
  obtain ⟨rs, rfl, _⟩ := h
  rfl
theorem firstBad_drop {ds : List PyData} {i : Nat} {d : PyData} (hd : ds[i]? = some d) : firstBad i (ds.drop i) = if rowsTup d = true then firstBad (i + 1) (ds.drop (i + 1)) else some i := by
  have hi : i < ds.length := (List.getElem?_eq_some_iff.mp hd).1
  rw [List.drop_eq_getElem_cons hi]
  rw [List.getElem?_eq_getElem hi] at hd
  cases hd
  rfl
def spBodyG (K : PySem.W.Frag) (CS CI : Addr) : Sp := fun vs H Q E => ∃ (v : V) (r : PyData) (sa : Addr) (S : Sc) (i : Int), vs = [v, .ref sa, .int i] ∧ Dp K H v r ∧ ScopeAt K H CS sa S ∧
  (((∃ rs : List Td.Row, r = .tuple (rowsD rs) ∧ okRs S 1 rs ∧ cnts rs ≤ 16) ∧ ∀ H', Same H H' → Q .non H') ∨ (isTup r = false ∧ RzIP K CI H E "rows" (.tuple [.str (kdS S.eff), .int i])))
def spBodiesG (K : PySem.W.Frag) (CI : Addr) : Sp := fun vs H Q E => ∃ (aw as : Addr) (v3 v4 : V) (ws ss : List Str) (ds3 ds4 : List PyData), vs = [.ref aw, .ref as, v3, v4] ∧ SqT K H aw (ws.map V.str) ∧ SqT K H as (ss.map V.str) ∧ Dp K H v3 (.tuple ds3) ∧ Dp K H v4 (.tuple ds4) ∧
  ss.length ≤ 4 ∧ ds3.length ≤ 6 ∧ ds4.length ≤ 4 ∧ (∀ d ∈ ds3, BodyG false d) ∧ (∀ d ∈ ds4, BodyG true d) ∧
  (bodiesFault ds3 ds4 = none → ∀ H', Same H H' → Q .non H') ∧ (∀ e i, bodiesFault ds3 ds4 = some (e, i) → RzIP K CI H E "rows" (.tuple [.str (kdS e), .int (i : Nat)]))
def faultD (d1 d2 d3 d4 : PyData) : Option (Str × PyData) := match partsFault d1 d2 d3 d4 with
  | some pt => some (pt, .tuple [])
  | none => (bodiesFault (tupOf d3) (tupOf d4)).map fun q => ("rows", .tuple [.str (kdS q.1), .int (q.2 : Nat)])
def spProgG (K : PySem.W.Frag) (CP CI : Addr) : Sp := fun vs H Q E => ∃ (x dx : Addr) (v1 v2 v3 v4 : V) (d1 d2 d3 d4 : PyData) (k : Nat), vs = [.ref x, v1, v2, v3, v4] ∧ H x = some (.ins CP dx []) ∧ Dp K H v1 d1 ∧ Dp K H v2 d2 ∧ Dp K H v3 d3 ∧ Dp K H v4 d4 ∧
  smB k d1 = true ∧ smB k d2 = true ∧ smB k d3 = true ∧ smB k d4 = true ∧ (partsFault d1 d2 d3 d4 = none → (∀ d ∈ tupOf d3, BodyG false d) ∧ (∀ d ∈ tupOf d4, BodyG true d)) ∧
  (faultD d1 d2 d3 d4 = none → ∀ H' fs, Same H H' → Q .non (upd H' x (.ins CP dx fs))) ∧ (∀ pt pd, faultD d1 d2 d3 d4 = some (pt, pd) → RzIP K CI H E pt pd)
section
variable {P : Program} {w : World} {K : PySem.W.Frag} {mg : Str → Option Value} {base : Heap}
theorem ok_check_bodyG (T : Tops w K mg) (G_first_wrong_path : FnOk P w K mg base CX0 7 T.a_first_wrong_path T.d_first_wrong_path ["rows", "scope", "base", "depth"] (spFirst K T.c_Scope 4))
    (G_paths_of_rows : FnOk P w K mg base CX0 4 T.a_paths_of_rows T.d_paths_of_rows ["rows", "base"] (spPaths K 4))
    (G_InvalidProgram_init : FnOk P w K mg base CX0 1 T.a_InvalidProgram_init T.d_InvalidProgram_init ["self", "part", "path"] (spExc2 K T.c_InvalidProgram "part" "path")) :
    FnOk P w K mg base (L2.CX P w) 8 T.a_check_body T.d_check_body ["rows", "scope", "index"] (spBodyG K T.c_Scope T.c_InvalidProgram) := by
  refine T.F_check_body.okX sc_check_body (fun vs H Q E h => ?_) (fun cdv A outer s H vs Q E hr h => ?_)
  · obtain ⟨v, r, sa, S, i, rfl, _⟩ := h
    rfl
  obtain ⟨v, r, sa, S, i, rfl, hD, hSc, h⟩ := h
  obtain ⟨dx, aw, as, ar, e, h1, h2, h3⟩ := hSc.ex
  refine ⟨_, (pss_cons (ps_set (i := 3) sc_check_body.nd rfl (Or.inl rfl) (pe_tup (pa_cons (pe_fld (pv 1) rfl) (pa_cons (pv 2) pa_nil))))
    (pss_cons (ps_if (pt_not (pt_val (pe_callB call_isi rfl T.z_isinstance (by decide +kernel) (pa_cons (pv 0) (pa_cons (pe_bltn (v := .ty "tuple") rfl T.z_tuple (by decide +kernel) rfl) pa_nil))))) (pss_one (ps_raise rfl (takes_of rfl rfl rfl rfl) (pmk_oex T.x_InvalidProgram T.xi_InvalidProgram T.xt_InvalidProgram G_InvalidProgram_init (hr.mono (by omega)) T.b_InvalidProgram_init .nil pass0 rfl T.m_InvalidProgram (pa_cons pe_str (pa_cons (pv 3) pa_nil))))) pss_nil)
    (pss_cons (ps_set (i := 4) sc_check_body.nd rfl (Or.inl rfl) (pe_call G_first_wrong_path (hr.mono (by omega)) rfl T.m_first_wrong_path T.F_first_wrong_path.kp T.b_first_wrong_path .nil pass0 (pa_cons (pv 0) (pa_cons (pv 1) (pa_cons (pv 3) (pa_cons pe_int pa_nil))))))
    (pss_cons (ps_if (pt_cmpR op_notN (pv 4) pe_non (nomark _)) (pss_one (ps_raise rfl (takes_of rfl rfl rfl rfl) (pmk_oex T.x_InvalidProgram T.xi_InvalidProgram T.xt_InvalidProgram G_InvalidProgram_init (hr.mono (by omega)) T.b_InvalidProgram_init .nil pass0 rfl T.m_InvalidProgram (pa_cons pe_str (pa_cons (pv 4) pa_nil))))) pss_nil)
    (pss_one (ps_if (pt_cmpR op_gt (pe_callB call_len rfl T.z_len PySem.boot_len (pa_cons (pe_call G_paths_of_rows (hr.mono (by omega)) rfl T.m_paths_of_rows T.F_paths_of_rows.kp T.b_paths_of_rows .nil pass0 (pa_cons (pv 0) (pa_cons (pv 3) pa_nil))) pa_nil)) (pe_glob (v := .int 16) rfl T.c_MOST_ROWS ⟨_, rfl⟩) (nomark _)) (pss_one (ps_raise rfl (takes_of rfl rfl rfl rfl) (pmk_oex T.x_InvalidProgram T.xi_InvalidProgram T.xt_InvalidProgram G_InvalidProgram_init (hr.mono (by omega)) T.b_InvalidProgram_init .nil pass0 rfl T.m_InvalidProgram (pa_cons pe_str (pa_cons (pv 3) pa_nil))))) pss_nil)))))), ?_⟩
  refine ⟨_, rfl, sa, _, dx, _, _, rfl, e, T.l_Scope, T.n_Scope_kind, scF_kind .., _, rfl, by show 2 ≤ sizeLine; decide, fun b hb => ?_⟩
  have s1 : Same H (upd H b (.tup [.str (kdS S.eff), .int i])) := Same.new hb _
  have hB : SqT K (upd H b (.tup [.str (kdS S.eff), .int i])) b [.str (kdS S.eff), .int i] := SqT.of upd_same
  show tSeq _ _ _ _ (upd H b (.tup [.str (kdS S.eff), .int i]))
  generalize upd H b (.tup [.str (kdS S.eff), .int i]) = H1 at s1 hB
  have hD1 := Dp.same s1 hD
  refine ⟨_, rfl, v, .ty "tuple", .type (tyD r), .type "tuple", _, rfl, .ty _, ty_data hD1, kit_tuple r, _, rfl, ?_⟩
  rcases h with ⟨⟨rs, rfl, ok, hc⟩, q⟩ | ⟨hno, rz⟩
  · refine if_false_of rfl ?_
    refine ⟨_, rfl, _, rfl, _, rfl, _, sa, b, _, S, 1, rs, rfl, hD1, hSc.same s1, hB, by simp, by simp, ok, by omega, by omega, fun H2 s2 => ?_⟩
    refine ⟨_, rfl, rfl, _, rfl, if_false_of rfl ?_⟩
    have s12 := s1.trans s2
    refine ⟨_, rfl, _, rfl, _, b, _, S, 1, rs, rfl, Dp.same s12 hD, SqT.same s2 hB, by simp, by simp, ok, by omega, by omega, by omega, fun p ys H3 s3 hp hy hyl => ?_⟩
    refine ⟨.ref p, _, rfl, .inl ⟨_, SqL.of hy, rfl⟩, _, _, rfl, rfl, _, rfl, if_false_of (decide_eq_false (by rw [hyl]; omega)) ?_⟩
    exact q H3 (s12.trans s3)
  · refine if_true_of (by rw [hno]; rfl) ?_
    exact ⟨_, rfl, made_two ((rz.later s1).made (.tup hB (.cons (.str _) (.cons (.int _) .nil))))⟩
theorem ok_check_bodiesG (T : Tops w K mg) (G_check_body : FnOk P w K mg base (L2.CX P w) 8 T.a_check_body T.d_check_body ["rows", "scope", "index"] (spBodyG K T.c_Scope T.c_InvalidProgram))
    (G_Scope_init : FnOk P w K mg base CX0 1 T.a_Scope_init T.d_Scope_init ["self", "kind", "words", "sources", "readable"] (spScope T.c_Scope)) :
    FnOk P w K mg base (L2.CX P w) 9 T.a_check_bodies T.d_check_bodies ["words", "sources", "derived", "effects"] (spBodiesG K T.c_InvalidProgram) := by
  refine T.F_check_bodies.okX sc_check_bodies (fun vs H Q E h => ?_) (fun cdv A outer s H vs Q E hr h => ?_)
  · obtain ⟨aw, as, v3, v4, ws, ss, ds3, ds4, rfl, _⟩ := h
    rfl
  obtain ⟨aw, as, v3, v4, ws, ss, ds3, ds4, rfl, hW, hSo, hD3, hD4, sl, l3, l4, g3, g4, q, r⟩ := h
  obtain ⟨ad, xs, rfl, hA, hX⟩ := Dp.tup_inv hD3
  obtain ⟨ae, ys, rfl, hA2, hY⟩ := Dp.tup_inv hD4
  have xl := DpAll.length hX
  have yl := DpAll.length hY
  refine ⟨_, (pss_cons (ps_set (i := 4) sc_check_bodies.nd rfl (Or.inl rfl) (pv 1))
    (pss_cons (ps_for (passes_of rfl) rfl (pi_enumT rfl T.z_enumerate (pa_cons (pv 2) pa_nil)) (pg_tup rfl (pgs_cons (pg_name (i := 5) sc_check_bodies.nd rfl (Or.inl rfl)) (pgs_cons (pg_tup rfl (pgs_cons (pg_name (i := 6) sc_check_bodies.nd rfl (Or.inl rfl)) (pgs_cons (pg_name (i := 7) sc_check_bodies.nd rfl (Or.inl rfl)) pgs_nil))) pgs_nil))) (pss_cons (ps_expr (pe_call G_check_body (hr.mono (by omega)) rfl T.m_check_body T.F_check_body.kp T.b_check_body .nil (passes_call (takes_of rfl rfl rfl rfl) (fun _ _ _ _ h => h)) (pa_cons (pv 7) (pa_cons (pe_make T.k_Scope G_Scope_init (hr.mono (by omega)) rfl T.m_Scope T.b_Scope_init .nil pass0 (pa_cons pe_str (pa_cons (pv 0) (pa_cons (pv 1) (pa_cons (pv 4) pa_nil))))) (pa_cons (pv 5) pa_nil)))))
    (pss_one (ps_set (i := 4) sc_check_bodies.nd rfl (Or.inl rfl) (pe_op op_catA (pv 4) (pe_tup (pa_cons (pv 6) pa_nil)))))))
    (pss_one (ps_for (passes_of rfl) rfl (pi_enumT rfl T.z_enumerate (pa_cons (pv 3) pa_nil)) (pg_tup rfl (pgs_cons (pg_name (i := 5) sc_check_bodies.nd rfl (Or.inl rfl)) (pgs_cons (pg_tup rfl (pgs_cons (pg_name (i := 8) sc_check_bodies.nd rfl (Or.inl rfl)) (pgs_cons (pg_name (i := 7) sc_check_bodies.nd rfl (Or.inl rfl)) pgs_nil))) pgs_nil))) (pss_one (ps_expr (pe_call G_check_body (hr.mono (by omega)) rfl T.m_check_body T.F_check_body.kp T.b_check_body .nil (passes_call (takes_of rfl rfl rfl rfl) (fun _ _ _ _ h => h)) (pa_cons (pv 7) (pa_cons (pe_make T.k_Scope G_Scope_init (hr.mono (by omega)) rfl T.m_Scope T.b_Scope_init .nil pass0 (pa_cons pe_str (pa_cons (pv 0) (pa_cons (pv 1) (pa_cons (pv 4) pa_nil))))) (pa_cons (pv 5) pa_nil)))))))))), ?_⟩
  refine ⟨_, rfl, ?_⟩
  refine ⟨_, rfl, ad, _, rfl, hA, for_enumT (K := K) (a := ad) (xs := xs) (fun i σ H' => ∃ (ar : Addr) (rd : List Str) (v5 v6 v7 : Option V), σ = [some (.ref aw), some (.ref as), some (.ref ad), some (.ref ae), some (.ref ar), v5, v6, v7, none] ∧ Same H H' ∧ SqT K H' ar (rd.map V.str) ∧ rd.length ≤ 4 + i ∧ firstBad 0 ds3 = firstBad i (ds3.drop i))
    ⟨as, ss, none, none, none, rfl, Same.refl _, hSo, sl, rfl⟩ (fun i σ H' _ ⟨_, _, _, _, _, _, hs, _⟩ => SqT.same hs hA) ?_ ?_⟩
  · rintro i x σ H1 t hi ⟨ar, rd, v5, v6, v7, rfl, hs, hR, rl, fb⟩ ht
    obtain ⟨d0, hd0, hx0⟩ := DpAll.get hX hi
    have hid : i < ds3.length := (List.getElem?_eq_some_iff.mp hd0).1
    obtain ⟨z, rw', rfl, hg⟩ := g3 d0 (List.mem_of_getElem? hd0)
    rw [firstBad_drop hd0] at fb
    obtain ⟨b, es, rfl, hB, hEs⟩ := Dp.tup_inv hx0
    obtain ⟨vr, rfl, hVr⟩ : ∃ vr, es = [.str z, vr] ∧ Dp K H vr rw' := by
      cases hEs with
      | cons a1 a2 =>
        cases a1
        cases a2 with
        | cons a3 a4 => cases a4; exact ⟨_, rfl, a3⟩
    have hs1 : Same H (upd H1 t (.tup [.int (i : Nat), .ref b])) := hs.trans (Same.new ht _)
    have hR1 := SqT.same (Same.new ht (.tup [.int (i : Nat), .ref b])) hR
    refine ⟨t, _, rfl, SqT.of upd_same, rfl, _, _, rfl, _, _, rfl, ⟨b, _, rfl, SqT.same hs1 hB, rfl, _, _, rfl, _, _, rfl, rfl, ?_⟩⟩
    generalize upd H1 t (.tup [.int (i : Nat), .ref b]) = H2 at hs1 hR1
    refine ⟨rfl, _, rfl, _, rfl, _, rfl, _, rfl, fun x dx hx hdx hne => ⟨x, dx, aw, as, ar, "derived", rfl, upd_same, rfl, _, rfl, ?_⟩⟩
    obtain ⟨H3, e3, s3, sc3⟩ := scope_made (C := T.c_Scope) (S := ⟨false, ws, ss, rd⟩) hx hdx hne (SqT.same hs1 hW) (SqT.same hs1 hSo) hR1
    rw [show ("derived" : Str) = kdS false from rfl, e3]
    have hs3 := hs1.trans s3
    rcases hg with ⟨rs, rfl, okA, hc⟩ | hno
    · refine ⟨vr, _, x, _, _, rfl, Dp.same hs3 hVr, sc3, .inl ⟨⟨rs, rfl, okA _ rfl, hc⟩, fun H4 s4 => ?_⟩⟩
      have s24 := s3.trans s4
      refine ⟨_, rfl, _, rfl, by show 1 ≤ sizeLine; decide, fun t1 ht1 => ?_⟩
      have s25 := s24.trans (Same.new ht1 (.tup [.str z]))
      refine cat_all (SqT.same s25 hR1) (SqT.of upd_same) (Nat.le_of_lt (small1000 (by rw [List.length_map]; show rd.length + 1 ≤ 1000; omega))) (fun ar2 H6 s6 hR6 => ?_)
      refine ⟨ar2, rd ++ [z], _, _, _, rfl, hs1.trans (s25.trans s6), ?_, by rw [List.length_append]; show rd.length + 1 ≤ _; omega, ?_⟩
      · rw [List.map_append]
        exact hR6
      · rw [fb]
        exact if_pos rfl
    · have e1 : bodiesFault ds3 ds4 = some (false, i) := by
        unfold bodiesFault
        rw [fb, if_neg (show ¬ rowsTup (.tuple [.str z, rw']) = true by show ¬ isTup rw' = true; rw [hno]; exact Bool.noConfusion)]
      exact ⟨vr, _, x, _, _, rfl, Dp.same hs3 hVr, sc3, .inr ⟨hno, (r _ _ e1).later hs3⟩⟩
  · rintro σ H1 ⟨ar, rd, v5, v6, v7, rfl, hs, hR, rl, fb⟩
    rw [xl, List.drop_length] at fb
    have fb3 : firstBad 0 ds3 = none := fb
    have eB : bodiesFault ds3 ds4 = (firstBad 0 ds4).map fun i => (true, i) := by
      unfold bodiesFault
      rw [fb3]
    refine ⟨_, rfl, ae, _, rfl, SqT.same hs hA2, for_enumT (K := K) (a := ae) (xs := ys) (fun i σ H' => ∃ (v5 v6 v7 v8 : Option V), σ = [some (.ref aw), some (.ref as), some (.ref ad), some (.ref ae), some (.ref ar), v5, v6, v7, v8] ∧ Same H1 H' ∧ firstBad 0 ds4 = firstBad i (ds4.drop i))
      ⟨v5, v6, v7, none, rfl, Same.refl _, rfl⟩ (fun i σ H' _ ⟨_, _, _, _, _, h, _⟩ => SqT.same (hs.trans h) hA2) ?_ ?_⟩
    · rintro i x σ H2 t hi ⟨v5, v6, v7, v8, rfl, hs2, fb⟩ ht
      obtain ⟨d0, hd0, hx0⟩ := DpAll.get hY hi
      obtain ⟨z, rw', rfl, hg⟩ := g4 d0 (List.mem_of_getElem? hd0)
      rw [firstBad_drop hd0] at fb
      obtain ⟨b, es, rfl, hB, hEs⟩ := Dp.tup_inv hx0
      obtain ⟨vr, rfl, hVr⟩ : ∃ vr, es = [.str z, vr] ∧ Dp K H vr rw' := by
        cases hEs with
        | cons a1 a2 =>
          cases a1
          cases a2 with
          | cons a3 a4 => cases a4; exact ⟨_, rfl, a3⟩
      have hs3 : Same H1 (upd H2 t (.tup [.int (i : Nat), .ref b])) := hs2.trans (Same.new ht _)
      refine ⟨t, _, rfl, SqT.of upd_same, rfl, _, _, rfl, _, _, rfl, ⟨b, _, rfl, SqT.same (hs.trans hs3) hB, rfl, _, _, rfl, _, _, rfl, rfl, ?_⟩⟩
      generalize upd H2 t (.tup [.int (i : Nat), .ref b]) = H3 at hs3
      refine ⟨rfl, _, rfl, _, rfl, _, rfl, _, rfl, fun x dx hx hdx hne => ⟨x, dx, aw, as, ar, "effects", rfl, upd_same, rfl, _, rfl, ?_⟩⟩
      obtain ⟨H4, e4, s4, sc4⟩ := scope_made (C := T.c_Scope) (S := ⟨true, ws, ss, rd⟩) hx hdx hne (SqT.same (hs.trans hs3) hW) (SqT.same (hs.trans hs3) hSo) (SqT.same hs3 hR)
      rw [show ("effects" : Str) = kdS true from rfl, e4]
      have hs4 := (hs.trans hs3).trans s4
      rcases hg with ⟨rs, rfl, okA, hc⟩ | hno
      · refine ⟨vr, _, x, _, _, rfl, Dp.same hs4 hVr, sc4, .inl ⟨⟨rs, rfl, okA _ rfl, hc⟩, fun H5 s5 => ?_⟩⟩
        exact ⟨_, _, _, _, rfl, hs3.trans (s4.trans s5), by rw [fb]; exact if_pos rfl⟩
      · have e1 : bodiesFault ds3 ds4 = some (true, i) := by
          rw [eB, fb, if_neg (show ¬ rowsTup (.tuple [.str z, rw']) = true by show ¬ isTup rw' = true; rw [hno]; exact Bool.noConfusion)]
          rfl
        exact ⟨vr, _, x, _, _, rfl, Dp.same hs4 hVr, sc4, .inr ⟨hno, (r _ _ e1).later hs4⟩⟩
    · rintro σ H2 ⟨_, _, _, _, rfl, hs2, fb⟩
      rw [yl, List.drop_length] at fb
      have fb4 : firstBad 0 ds4 = none := fb
      exact q (by rw [eB, fb4]; rfl) H2 (hs.trans hs2)
section
variable {K : PySem.W.Frag} {H : Hp} {a x dx C : Addr} {fs : List (Str × V)} {o : HO}
theorem SqT.ins {xs : List V} (hx : H x = some (.ins C dx fs)) (h : SqT K H a xs) : SqT K (upd H x o) a xs := by
  rcases h with (h | ⟨o', h⟩) | h
  · exact .inl (.inl (by rw [upd_ne (ne_of h hx (by intro z; cases z))]; exact h))
  · exact .inl (.inr ⟨o', by rw [upd_ne (ne_of h hx (by intro z; cases z))]; exact h⟩)
  · exact .inr h
theorem SqL.ins {xs : List V} (hx : H x = some (.ins C dx fs)) (h : SqL K H a xs) : SqL K (upd H x o) a xs := by
  rcases h with (h | ⟨o', h⟩) | h
  · exact .inl (.inl (by rw [upd_ne (ne_of h hx (by intro z; cases z))]; exact h))
  · exact .inl (.inr ⟨o', by rw [upd_ne (ne_of h hx (by intro z; cases z))]; exact h⟩)
  · exact .inr h
mutual
theorem Dp.ins (hx : H x = some (.ins C dx fs)) : ∀ {v : V} {d : PyData}, Dp K H v d → Dp K (upd H x o) v d
  | _, _, .non => .non
  | _, _, .bl b => .bl b
  | _, _, .int b => .int b
  | _, _, .str b => .str b
  | _, _, .lst q r => .lst (SqL.ins hx q) (DpAll.ins hx r)
  | _, _, .tup q r => .tup (SqT.ins hx q) (DpAll.ins hx r)
theorem DpAll.ins (hx : H x = some (.ins C dx fs)) : ∀ {v : List V} {d : List PyData}, DpAll K H v d → DpAll K (upd H x o) v d
  | _, _, .nil => .nil
  | _, _, .cons a b => .cons (Dp.ins hx a) (DpAll.ins hx b)
end
end
theorem ok_programG (T : Tops w K mg) (G_check_parts : FnOk P w K mg base (L2.CX P w) 4 T.a_check_parts T.d_check_parts ["words", "sources", "derived", "effects"] (spPartsD K T.c_InvalidProgram))
    (G_check_bodies : FnOk P w K mg base (L2.CX P w) 9 T.a_check_bodies T.d_check_bodies ["words", "sources", "derived", "effects"] (spBodiesG K T.c_InvalidProgram))
    (G_names_of : FnOk P w K mg base CX0 1 T.a_names_of T.d_names_of ["pairs"] (spNmsOf K)) :
    FnOk P w K mg base (L2.CX P w) 10 T.a_Program_init T.d_Program_init ["self", "words", "sources", "derived", "effects"] (spProgG K T.c_Program T.c_InvalidProgram) := by
  refine T.F_Program_init.okX sc_Program_init (fun vs H Q E h => ?_) (fun cdv A outer s H vs Q E hr h => ?_)
  · obtain ⟨x, dx, v1, v2, v3, v4, d1, d2, d3, d4, k, rfl, _⟩ := h
    rfl
  obtain ⟨x, dx, v1, v2, v3, v4, d1, d2, d3, d4, k, rfl, hx, hD1, hD2, hD3, hD4, m1, m2, m3, m4, hb, q, r⟩ := h
  refine ⟨_, (pss_cons (ps_expr (pe_call G_check_parts (hr.mono (by omega)) rfl T.m_check_parts T.F_check_parts.kp T.b_check_parts .nil (passes_call (takes_of rfl rfl rfl rfl) (fun _ _ _ _ h => h)) (pa_cons (pv 1) (pa_cons (pv 2) (pa_cons (pv 3) (pa_cons (pv 4) pa_nil))))))
    (pss_cons (ps_expr (pe_call G_check_bodies (hr.mono (by omega)) rfl T.m_check_bodies T.F_check_bodies.kp T.b_check_bodies .nil (passes_call (takes_of rfl rfl rfl rfl) (fun _ _ _ _ h => h)) (pa_cons (pv 1) (pa_cons (pv 2) (pa_cons (pv 3) (pa_cons (pv 4) pa_nil))))))
    (pss_cons (ps_fld (pv 0) (pv 1) rfl)
    (pss_cons (ps_fld (pv 0) (pv 2) rfl)
    (pss_cons (ps_fld (pv 0) (pv 3) rfl)
    (pss_cons (ps_fld (pv 0) (pv 4) rfl)
    (pss_cons (ps_fld (pv 0) (pe_call G_names_of (hr.mono (by omega)) rfl T.m_names_of T.F_names_of.kp T.b_names_of .nil pass0 (pa_cons (pv 3) pa_nil)) rfl)
    (pss_one (ps_fld (pv 0) (pe_call G_names_of (hr.mono (by omega)) rfl T.m_names_of T.F_names_of.kp T.b_names_of .nil pass0 (pa_cons (pv 4) pa_nil)) rfl))))))))), ?_⟩
  refine ⟨_, rfl, _, rfl, _, rfl, _, rfl, v1, v2, v3, v4, d1, d2, d3, d4, k, rfl, hD1, hD2, hD3, hD4, m1, m2, m3, m4, fun pn H1 s1 => ?_, fun pt e => r pt _ (by unfold faultD; rw [e])⟩
  obtain ⟨b3, b4⟩ := hb pn
  have n1 : namesD 2 4 d1 = true := by
    cases c : namesD 2 4 d1 with
    | true => rfl
    | false => unfold partsFault at pn; rw [if_pos c] at pn; cases pn
  have n1' : ¬ namesD 2 4 d1 = false := by rw [n1]; exact Bool.noConfusion
  have n2 : namesD 1 4 d2 = true := by
    cases c : namesD 1 4 d2 with
    | true => rfl
    | false => unfold partsFault at pn; rw [if_neg n1', if_pos c] at pn; cases pn
  have n2' : ¬ namesD 1 4 d2 = false := by rw [n2]; exact Bool.noConfusion
  have n3 : pairsOk 6 (strsOf (tupOf d2)) d3 = true := by
    cases c : pairsOk 6 (strsOf (tupOf d2)) d3 with
    | true => rfl
    | false => unfold partsFault at pn; rw [if_neg n1', if_neg n2', if_pos c] at pn; cases pn
  have n3' : ¬ pairsOk 6 (strsOf (tupOf d2)) d3 = false := by rw [n3]; exact Bool.noConfusion
  have n4 : pairsOk 4 (strsOf (tupOf d2) ++ nmsOf (tupOf d3)) d4 = true := by
    cases c : pairsOk 4 (strsOf (tupOf d2) ++ nmsOf (tupOf d3)) d4 with
    | true => rfl
    | false => unfold partsFault at pn; rw [if_neg n1', if_neg n2', if_neg n3', if_pos c] at pn; cases pn
  have efd : faultD d1 d2 d3 d4 = (bodiesFault (tupOf d3) (tupOf d4)).map fun q => (("rows" : Str), PyData.tuple [.str (kdS q.1), .int (q.2 : Nat)]) := by unfold faultD; rw [pn]
  obtain ⟨e1s, rfl, a1, a2, x1, x2, x3⟩ := namesD_yes n1
  obtain ⟨e2s, rfl, b1, b2, y1, y2, y3⟩ := namesD_yes n2
  obtain ⟨e3s, rfl, l3, g3⟩ := pairsOk_yes n3
  obtain ⟨e4s, rfl, l4, g4⟩ := pairsOk_yes n4
  obtain ⟨aw, rfl, hW⟩ := names_heap hD1 x1
  obtain ⟨as, rfl, hSo⟩ := names_heap hD2 y1
  have sl : (strsOf e2s).length = e2s.length := by have := congrArg List.length y1; rw [List.length_map] at this; exact this.symm
  refine ⟨_, rfl, _, rfl, _, rfl, _, rfl, aw, as, v3, v4, _, _, e3s, e4s, rfl, SqT.same s1 hW, SqT.same s1 hSo, Dp.same s1 hD3, Dp.same s1 hD4, by omega, by omega, by omega, b3, b4, fun bn H2 s2 => ?_, fun e i eb => (r _ _ (by rw [efd]; show (bodiesFault e3s e4s).map _ = _; rw [eb]; rfl)).later s1⟩
  have h12 := s1.trans s2
  refine ⟨_, rfl, _, rfl, x, T.c_Program, dx, [], rfl, h12 _ _ hx, T.l_Program, T.n_Program_words, by show 0 < 1000; decide, ?_⟩
  refine ⟨_, rfl, _, rfl, x, T.c_Program, dx, _, rfl, upd_same, T.l_Program, T.n_Program_sources, by show 1 < 1000; decide, ?_⟩
  rw [upd_upd]
  refine ⟨_, rfl, _, rfl, x, T.c_Program, dx, _, rfl, upd_same, T.l_Program, T.n_Program_derived, Nat.lt_of_le_of_lt (m := 2) (Nat.le_of_eq (by kernel_rfl)) (by decide), ?_⟩
  rw [upd_upd]
  refine ⟨_, rfl, _, rfl, x, T.c_Program, dx, _, rfl, upd_same, T.l_Program, T.n_Program_effects, Nat.lt_of_le_of_lt (m := 3) (Nat.le_of_eq (by kernel_rfl)) (by decide), ?_⟩
  rw [upd_upd]
  have hx2 := h12 _ _ hx
  refine ⟨_, rfl, v3, e3s, nmsOf e3s, rfl, Dp.ins hx2 (Dp.same h12 hD3), (goP_names _ _ g3).1, by omega, fun t1 H3 s3 ht1 => ?_⟩
  have hx3 := s3 _ _ upd_same
  refine ⟨_, rfl, x, T.c_Program, dx, _, rfl, hx3, T.l_Program, T.n_Program__derived_names, Nat.lt_of_le_of_lt (m := 4) (Nat.le_of_eq (by kernel_rfl)) (by decide), ?_⟩
  refine ⟨_, rfl, v4, e4s, nmsOf e4s, rfl, Dp.ins hx3 (Dp.same s3 (Dp.ins hx2 (Dp.same h12 hD4))), (goP_names _ _ g4).1, by omega, fun t2 H4 s4 ht2 => ?_⟩
  have hx4 := s4 _ _ upd_same
  refine ⟨_, rfl, x, T.c_Program, dx, _, rfl, hx4, T.l_Program, T.n_Program__effect_names, Nat.lt_of_le_of_lt (m := 5) (Nat.le_of_eq (by kernel_rfl)) (by decide), ?_⟩
  have sH := made_same (made_same h12 hx s3) hx (by rw [upd_upd]; exact s4)
  have q2 := q (by rw [efd]; show (bodiesFault e3s e4s).map _ = _; rw [bn]; rfl) _ (putF "_effect_names" (.ref t2) (putF "_derived_names" (.ref t1) (putF "effects" v4 (putF "derived" v3 (putF "sources" (.ref as) (putF "words" (.ref aw) [])))))) sH
  rw [upd_upd] at q2
  exact q2
end
end K01
namespace K01
open PySem PySem.Spec PyProof.Rows L2 Td
def abcL : Str := "abcdefghijklmnopqrstuvwxyz"
theorem abc_in (c : Nat) : (!(Builtin.Str.occurrences abcL ⟨#[c]⟩ 0 abcL.length 1).isEmpty) = lowc c := by
  have h : (!(Builtin.Str.occurrences abcL ⟨#[c]⟩ 0 abcL.length 1).isEmpty) = true ↔ lowc c = true := by
    rw [StrLaws.found_iff]
    have e : abcL.cps.toList = List.range' 97 26 := by decide +kernel
    constructor
    · rintro ⟨i, hi⟩
      have h2 := (StrLaws.subAt_one abcL c i).mp hi
      have hm := List.mem_of_getElem? h2
      rw [e, List.mem_range'_1] at hm
      unfold lowc
      rw [decide_eq_true hm.1, decide_eq_true (by omega : c ≤ 122)]
      rfl
    · intro hl
      unfold lowc at hl
      simp only [Bool.and_eq_true, decide_eq_true_eq] at hl
      have hm : c ∈ abcL.cps.toList := by rw [e, List.mem_range'_1]; omega
      obtain ⟨i, hi⟩ := List.getElem?_of_mem hm
      exact ⟨i, (StrLaws.subAt_one abcL c i).mpr hi⟩
  cases hb : lowc c with
  | true => exact h.mpr hb
  | false =>
    cases ha : (!(Builtin.Str.occurrences abcL ⟨#[c]⟩ 0 abcL.length 1).isEmpty) with
    | false => rfl
    | true => rw [h.mp ha] at hb; cases hb
theorem kit_str {K : PySem.W.Frag} (d : PyData) : PySem.W.kitOne K (.type (tyD d)) (.type "str") = some (strOf d).isSome := by
  cases d with
  | none => show PySem.W.kitOne K (.type "NoneType") (.type "str") = some false; exact kit_ty (by decide +kernel)
  | bool b => show PySem.W.kitOne K (.type "bool") (.type "str") = some false; exact kit_ty (by decide +kernel)
  | int i => show PySem.W.kitOne K (.type "int") (.type "str") = some false; exact kit_ty (by decide +kernel)
  | str z => show PySem.W.kitOne K (.type "str") (.type "str") = some true; exact kit_ty (by decide +kernel)
  | list ds => show PySem.W.kitOne K (.type "list") (.type "str") = some false; exact kit_ty (by decide +kernel)
  | tuple ds => show PySem.W.kitOne K (.type "tuple") (.type "str") = some false; exact kit_ty (by decide +kernel)
  | dict kvs => show PySem.W.kitOne K (.type "dict") (.type "str") = some false; exact kit_ty (by decide +kernel)
theorem filter_all (l : List Nat) : decide (V.int ((l.filter lowc).length : Nat) = V.int (l.length : Nat)) = l.all lowc := by
  by_cases h : l.all lowc = true
  · rw [List.filter_eq_self.mpr (List.all_eq_true.mp h), h]
    exact decide_eq_true rfl
  · have h' : l.all lowc = false := by simpa using h
    rw [h']
    refine decide_eq_false fun e => h ?_
    have e2 : (l.filter lowc).length = l.length := by injection e with e; omega
    exact List.all_eq_true.mpr (List.length_filter_eq_length_iff.mp e2)
/-- names met one by one -/
def goN : List Str → List PyData → Bool
  | _, [] => true
  | bf, d :: ds => match strOf d with
    | some z => isNm z && (!decide (z ∈ bf) && goN (bf ++ [z]) ds)
    | none => false
theorem goN_eq : ∀ (ds : List PyData) (bf : List Str), goN bf ds = (ds.all isNmD && (decide (strsOf ds).Nodup && (strsOf ds).all fun z => !decide (z ∈ bf)))
  | [], bf => by simp [goN, strsOf]
  | d :: ds, bf => by
    cases hd : strOf d with
    | none =>
      have h1 : goN bf (d :: ds) = false := by show (match strOf d with | some z => isNm z && (!decide (z ∈ bf) && goN (bf ++ [z]) ds) | none => false) = false; rw [hd]
      have h2 : isNmD d = false := by
        cases d with
        | str z => cases hd
        | _ => rfl
      rw [h1, List.all_cons, h2]
      rfl
    | some z =>
      obtain rfl : d = .str z := by
        cases d with
        | str y => cases hd; rfl
        | _ => cases hd
      have h1 : goN bf (.str z :: ds) = (isNm z && (!decide (z ∈ bf) && goN (bf ++ [z]) ds)) := rfl
      have h3 : strsOf (.str z :: ds) = z :: strsOf ds := rfl
      rw [h1, goN_eq ds, List.all_cons, h3, List.all_cons]
      show (isNm z && (!decide (z ∈ bf) && _)) = (isNm z && ds.all isNmD && _)
      rw [Bool.eq_iff_iff]
      simp only [Bool.and_eq_true, decide_eq_true_eq, List.all_eq_true, Bool.not_eq_true', decide_eq_false_iff_not, List.nodup_cons, List.mem_append, List.mem_singleton, not_or]
      constructor
      · rintro ⟨a, b, c, d, e⟩
        exact ⟨⟨a, c⟩, ⟨fun h => (e z h).2 rfl, d⟩, b, fun x hx => (e x hx).1⟩
      · rintro ⟨⟨a, c⟩, ⟨n, d⟩, b, e⟩
        exact ⟨a, b, c, d, fun x hx => ⟨e x hx, fun h => n (h ▸ hx)⟩⟩
theorem goN_nil (ds : List PyData) : goN [] ds = (ds.all isNmD && decide (strsOf ds).Nodup) := by
  rw [goN_eq]
  have : ((strsOf ds).all fun z => !decide (z ∈ ([] : List Str))) = true := by rw [List.all_eq_true]; intro x _; simp
  rw [this, Bool.and_true]
/-- a list or a tuple -/
def SqA (K : PySem.W.Frag) (H : Hp) (a : Addr) (xs : List V) : Prop := SqL K H a xs ∨ SqT K H a xs
theorem SqA.same {K : PySem.W.Frag} {H H' : Hp} {a : Addr} {xs : List V} (s : Same H H') (h : SqA K H a xs) : SqA K H' a xs := h.elim (fun h => .inl (SqL.same s h)) fun h => .inr (SqT.same s h)
def spPairsG (K : PySem.W.Frag) : Sp := fun vs H Q _ => ∃ (v : V) (d : PyData) (k : Nat) (m : Int) (tk : Addr) (ts : List Str), vs = [v, .int m, .ref tk] ∧ Dp K H v d ∧ smB k d = true ∧ SqA K H tk (ts.map V.str) ∧ ts.length ≤ 100 ∧ ∀ H', Same H H' → Q (.bl (pairsOk m ts d)) H'
section
variable {P : Program} {w : World} {K : PySem.W.Frag} {mg : Str → Option Value} {base : Heap}
theorem ok_law_is_name (T : Tops w K mg) : FnOk P w K mg base CX0 1 T.a__law_is_name T.d__law_is_name ["_law_value"] (spIsNmD K) := by
  refine T.F__law_is_name.ok sc_law_is_name (fun vs H Q E h => ?_) (fun cdv A outer s H vs Q E hr h => ?_)
  · obtain ⟨v, d, k, rfl, _⟩ := h
    rfl
  obtain ⟨v, d, k, rfl, hD, hs, q⟩ := h
  refine ⟨_, (pss_cons (ps_if (PW.pt (pw_or (pt_not (pt_val (pe_callB call_isi rfl T.z_isinstance (by decide +kernel) (pa_cons (pv 0) (pa_cons (pe_bltn (v := .ty "str") rfl T.z_str (by decide +kernel) rfl) pa_nil))))) (pw_or (pt_cmpR op_lt (pe_callB call_len rfl T.z_len PySem.boot_len (pa_cons (pv 0) pa_nil)) pe_int (nomark _)) (pw_or1 (pt_cmpR op_gt (pe_callB call_len rfl T.z_len PySem.boot_len (pa_cons (pv 0) pa_nil)) pe_int (nomark _)))))) (pss_one (ps_ret pe_bl)) pss_nil)
    (pss_one (ps_ret (pe_cmpR op_eq (pe_callB call_len rfl T.z_len PySem.boot_len (pa_cons (pe_lc (own := [("_law_letter", 1)]) (g := gName 1) (te := tVar 1) rfl sc_law_is_name.nd (pi_str (pv 0)) (blkOk_by (own := [("_law_letter", 1)]) (N := N_law_is_name) (sc := defScope s_law_is_name) (by decide +kernel)) (fun _ _ _ _ _ => (pg_name (i := 1) sc_law_is_name.nd rfl (Or.inl rfl))) (fun _ _ _ _ _ => pts_one (pt_cmpR op_in_str (pv 1) pe_str (by rfl))) (fun _ _ _ _ _ => pv 1)) pa_nil)) (pe_callB call_len rfl T.z_len PySem.boot_len (pa_cons (pv 0) pa_nil)) (nomark _))))), ?_⟩
  refine ⟨_, rfl, v, .ty "str", .type (tyD d), .type "str", _, rfl, .ty _, ty_data hD, kit_str d, _, rfl, ?_⟩
  cases hd : strOf d with
  | none =>
    have h2 : isNmD d = false := by
      cases d with
      | str z => cases hd
      | _ => rfl
    rw [h2] at q
    exact iteT (q H (Same.refl _))
  | some z =>
    obtain rfl : d = .str z := by
      cases d with
      | str y => cases hd; rfl
      | _ => cases hd
    cases hD
    have z100 : z.length ≤ 100 := by
      cases k with
      | zero => simp [smB] at hs
      | succ k => exact sm_str hs
    have zs : z.length ≤ sizeLine := Nat.le_of_lt (small1000 (by omega))
    refine iteF ?_
    refine ⟨_, rfl, .str z, _, rfl, ⟨zs, rfl⟩, _, _, rfl, rfl, _, rfl, ?_⟩
    by_cases c1 : z.length < 1
    · rw [decide_eq_true (by omega : ((z.length : Nat) : Int) < 1)]
      have h2 : isNmD (.str z) = false := by
        show isNm z = false
        unfold isNm
        rw [decide_eq_false (by omega : ¬ 1 ≤ z.length)]
        rfl
      rw [h2] at q
      exact iteT (q H (Same.refl _))
    · rw [decide_eq_false (by omega : ¬ ((z.length : Nat) : Int) < 1)]
      refine iteF ?_
      refine ⟨_, rfl, .str z, _, rfl, ⟨zs, rfl⟩, _, _, rfl, rfl, _, rfl, ?_⟩
      by_cases c8 : 8 < z.length
      · refine if_true_of (decide_eq_true (by omega)) ?_
        have h2 : isNmD (.str z) = false := by
          show isNm z = false
          unfold isNm
          rw [decide_eq_false (by omega : ¬ z.length ≤ 8), Bool.and_false]
          rfl
        rw [h2] at q
        exact q H (Same.refl _)
      · refine if_false_of (decide_eq_false (by omega)) ?_
        have ez : isNmD (.str z) = z.cps.toList.all lowc := by
          show isNm z = _
          unfold isNm
          rw [decide_eq_true (by omega : 1 ≤ z.length), decide_eq_true (by omega : z.length ≤ 8)]
          rfl
        refine ⟨_, rfl, z, rfl, fun D hD => lc_str (fun i H' => Same H H' ∧ H' D = some (.lst (((z.cps.toList.take i).filter lowc).map fun c => V.str ⟨#[c]⟩))) ⟨Same.new hD _, upd_same⟩ ?_ ?_⟩
        · rintro i c H' hc ⟨hs', hb⟩
          have hct : z.cps.toList[i]? = some c := by rw [Array.getElem?_toList]; exact hc
          have hz8 : z.cps.toList.length ≤ 8 := by show z.length ≤ 8; omega
          have hfl : ((z.cps.toList.take i).filter lowc).length ≤ 8 := Nat.le_trans (List.length_filter_le _ _) (by rw [List.length_take]; omega)
          refine ⟨rfl, ?_⟩
          refine ⟨_, rfl, _, _, rfl, rfl, _, rfl, ?_⟩
          cases hl : lowc c with
          | true =>
            refine if_true_of ((abc_in c).trans hl) ?_
            refine ⟨_, rfl, _, hb, small1000 (by rw [List.length_map]; omega), own_same hs' hD, ?_⟩
            rw [upd_same, take_more hct, List.filter_append, List.map_append]
            simp [hl]
          | false =>
            refine if_false_of ((abc_in c).trans hl) ⟨hs', ?_⟩
            rw [take_more hct, List.filter_append, List.filter_cons, hl]
            simpa using hb
        · rintro H' ⟨hs', hb⟩
          have hb' : H' D = some (.lst ((z.cps.toList.filter lowc).map fun c => V.str ⟨#[c]⟩)) := by
            rw [List.take_of_length_le (by rw [Array.length_toList]; exact Nat.le_refl _)] at hb
            exact hb
          refine ⟨.ref D, _, rfl, .inl ⟨_, SqL.of hb', rfl⟩, _, rfl, .str z, _, rfl, ⟨zs, rfl⟩, rfl, ?_⟩
          have h := q H' hs'
          rw [ez, ← filter_all] at h
          rw [List.length_map]
          exact h
theorem ok_law_names_good (T : Tops w K mg) (G__law_is_name : FnOk P w K mg base CX0 1 T.a__law_is_name T.d__law_is_name ["_law_value"] (spIsNmD K)) :
    FnOk P w K mg base CX0 2 T.a__law_names_good T.d__law_names_good ["_law_value", "_law_least", "_law_most"] (spNamesD K) := by
  refine T.F__law_names_good.ok sc_law_names_good (fun vs H Q E h => ?_) (fun cdv A outer s H vs Q E hr h => ?_)
  · obtain ⟨v, d, k, l, m, rfl, _⟩ := h
    rfl
  obtain ⟨v, d, k, l, m, rfl, hD, hsm, q⟩ := h
  refine ⟨_, (pss_cons (ps_if (PW.pt (pw_or (pt_not (pt_val (pe_callB call_isi rfl T.z_isinstance (by decide +kernel) (pa_cons (pv 0) (pa_cons (pe_bltn (v := .ty "tuple") rfl T.z_tuple (by decide +kernel) rfl) pa_nil))))) (pw_or (pt_cmpR op_lt (pe_callB call_len rfl T.z_len PySem.boot_len (pa_cons (pv 0) pa_nil)) (pv 1) (nomark _)) (pw_or1 (pt_cmpR op_gt (pe_callB call_len rfl T.z_len PySem.boot_len (pa_cons (pv 0) pa_nil)) (pv 2) (nomark _)))))) (pss_one (ps_ret pe_bl)) pss_nil)
    (pss_cons (ps_set (i := 3) sc_law_names_good.nd rfl (Or.inl rfl) (pe_lst pa_nil))
    (pss_cons (ps_for PassesOwn.never rfl (pi_tup (pv 0)) (pg_name (i := 4) sc_law_names_good.nd rfl (Or.inl rfl)) (pss_cons (ps_if (PW.pt (pw_or (pt_not (pt_val (pe_call G__law_is_name (hr.mono (by omega)) rfl T.m__law_is_name T.F__law_is_name.kp T.b__law_is_name .nil pass0 (pa_cons (pv 4) pa_nil)))) (pw_or1 (pt_cmpR op_in_seq (pv 4) (pv 3) (by rfl))))) (pss_one (ps_ret pe_bl)) pss_nil)
    (pss_one (ps_expr (pe_bm PySem.F.plainAttrs_list PySem.F.slot_list_append PySem.F.type_list_append mt_append (pv 3) (pa_cons (pv 4) pa_nil))))))
    (pss_one (ps_ret pe_bl))))), ?_⟩
  refine ⟨_, rfl, v, .ty "tuple", .type (tyD d), .type "tuple", _, rfl, .ty _, ty_data hD, kit_tuple d, _, rfl, ?_⟩
  by_cases ht : isTup d = true
  · rw [ht]
    obtain ⟨ds, rfl⟩ := isTup_ex ht
    obtain ⟨j, rfl⟩ := sm_pos hsm
    obtain ⟨d100, dsm⟩ := sm_tup hsm
    obtain ⟨a, xs, rfl, hS, hA⟩ := Dp.tup_inv hD
    have xl := DpAll.length hA
    have e0 : namesD l m (.tuple ds) = (decide (l ≤ (ds.length : Int)) && (decide ((ds.length : Int) ≤ m) && goN [] ds)) := by rw [goN_nil]; rfl
    rw [e0] at q
    refine iteF ?_
    refine ⟨_, rfl, .ref a, _, rfl, .inr ⟨_, hS, rfl⟩, _, rfl, _, _, rfl, rfl, _, rfl, ?_⟩
    by_cases c1 : l ≤ (ds.length : Int)
    · rw [decide_eq_false (by omega : ¬ ((xs.length : Nat) : Int) < l)]
      rw [decide_eq_true c1] at q
      refine iteF ?_
      refine ⟨_, rfl, .ref a, _, rfl, .inr ⟨_, hS, rfl⟩, _, rfl, _, _, rfl, rfl, _, rfl, ?_⟩
      by_cases c2 : (ds.length : Int) ≤ m
      · refine if_false_of (decide_eq_false (by omega)) ?_
        rw [decide_eq_true c2, Bool.true_and, Bool.true_and] at q
        refine ⟨by show 0 ≤ sizeLine; decide, fun sl hsl => ?_⟩
        refine ⟨_, rfl, a, rfl, ⟨_, SqT.same (Same.new hsl _) hS⟩, for_tup (K := K) (a := a) (xs := xs) (fun i σ H' => ∃ (v4 : Option V) (zs : List Str), σ = [some (.ref a), some (.int l), some (.int m), some (.ref sl), v4] ∧ Same H H' ∧ H' sl = some (.lst (zs.map V.str)) ∧ zs.length = i ∧ goN [] ds = goN zs (ds.drop i))
          ⟨none, [], rfl, Same.new hsl _, upd_same, rfl, rfl⟩ (fun i σ H' _ ⟨_, _, _, hs, _⟩ => SqT.same hs hS) ?_ ?_⟩
        · rintro i x σ H' hi ⟨v4, zs, rfl, hs, hL, zl, hg⟩
          obtain ⟨d0, hd0, hx0⟩ := DpAll.get hA hi
          have hid : i < ds.length := (List.getElem?_eq_some_iff.mp hd0).1
          have edrop : ds.drop i = d0 :: ds.drop (i + 1) := by
            rw [List.drop_eq_getElem_cons hid]
            rw [List.getElem?_eq_getElem hid] at hd0
            cases hd0
            rfl
          rw [edrop] at hg
          refine ⟨_, rfl, x, d0, j, rfl, Dp.same hs hx0, dsm d0 (List.mem_of_getElem? hd0), fun H3 s3 => ⟨isNmD d0, rfl, ?_⟩⟩
          have hL3 := s3 _ _ hL
          cases hn : isNmD d0 with
          | false =>
            refine iteT ?_
            have e : goN zs (d0 :: ds.drop (i + 1)) = false := by
              show (match strOf d0 with | some z => isNm z && (!decide (z ∈ zs) && goN (zs ++ [z]) (ds.drop (i + 1))) | none => false) = false
              cases d0 with
              | str z =>
                have hz : isNm z = false := hn
                show (isNm z && _) = false
                rw [hz]
                rfl
              | _ => rfl
            rw [hg, e] at q
            exact q H3 (hs.trans s3)
          | true =>
            refine iteF ?_
            obtain ⟨z, rfl⟩ : ∃ z, d0 = .str z := by
              cases d0 with
              | str z => exact ⟨z, rfl⟩
              | _ => cases hn
            cases hx0
            have hz : isNm z = true := hn
            have e : goN zs (.str z :: ds.drop (i + 1)) = (!decide (z ∈ zs) && goN (zs ++ [z]) (ds.drop (i + 1))) := by
              show (isNm z && _) = _
              rw [hz]
              rfl
            rw [e] at hg
            refine ⟨_, rfl, _, rfl, sl, _, rfl, .inl (SqL.of hL3), rfl, L2.flat_strs _, _, rfl, ?_⟩
            by_cases hin : z ∈ zs
            · refine if_true_of (by show (inV _ _) = true; rw [inV_strs]; exact decide_eq_true hin) ?_
              rw [hg, decide_eq_true hin] at q
              exact q H3 (hs.trans s3)
            · refine if_false_of (by show (inV _ _) = false; rw [inV_strs]; exact decide_eq_false hin) ?_
              rw [decide_eq_false hin, Bool.not_false, Bool.true_and] at hg
              refine ⟨_, rfl, .inl ⟨rfl, _, SqL.of hL3⟩, _, rfl, sl, _, _, rfl, rfl, hL3, small1000 (by rw [List.length_map]; omega), ?_⟩
              refine ⟨_, zs ++ [z], rfl, own_same (hs.trans s3) hsl, ?_, by rw [List.length_append, zl]; rfl, hg⟩
              rw [upd_same]
              simp
        · rintro σ H' ⟨v4, zs, rfl, hs, hL, zl, hg⟩
          rw [xl, List.drop_length] at hg
          rw [hg] at q
          exact q H' hs
      · refine if_true_of (decide_eq_true (by omega)) ?_
        rw [decide_eq_false c2] at q
        exact q H (Same.refl _)
    · rw [decide_eq_true (by omega : ((xs.length : Nat) : Int) < l)]
      rw [decide_eq_false c1] at q
      exact iteT (q H (Same.refl _))
  · have ht' : isTup d = false := by simpa using ht
    rw [ht']
    rw [namesD_no ht'] at q
    exact iteT (q H (Same.refl _))
end
end K01
namespace K01
open PySem PySem.Spec PyProof.Rows L2 Td
theorem one_ofD {K : PySem.W.Frag} {H : Hp} {vs : List V} {r : PyData} (h : DpAll K H vs [r]) : ∃ vr, vs = [vr] ∧ Dp K H vr r := by
  cases h with
  | cons a b => cases b; exact ⟨_, rfl, a⟩
def faultV : Option (Str × PyData) → PyData
  | none => .none
  | some q => .tuple [.str q.1, q.2]
def spFirstFault (K : PySem.W.Frag) : Sp := fun vs H Q _ => ∃ (pl : Addr) (v1 v2 v3 v4 : V) (d1 d2 d3 d4 : PyData) (k : Nat), vs = [.ref pl] ∧ SqL K H pl [v1, v2, v3, v4] ∧ Dp K H v1 d1 ∧ Dp K H v2 d2 ∧ Dp K H v3 d3 ∧ Dp K H v4 d4 ∧
  smB k d1 = true ∧ smB k d2 = true ∧ smB k d3 = true ∧ smB k d4 = true ∧ (partsFault d1 d2 d3 d4 = none → (∀ d ∈ tupOf d3, BodyG false d) ∧ (∀ d ∈ tupOf d4, BodyG true d)) ∧
  ∀ (v : V) H', Same H H' → Dp K H' v (faultV (faultD d1 d2 d3 d4)) → Q v H'
theorem pair2_at {K : PySem.W.Frag} {H : Hp} {v : V} {z : Str} {r : PyData} (h : Dp K H v (.tuple [.str z, r])) : ∃ (b : Addr) (vr : V), v = .ref b ∧ SqT K H b [.str z, vr] ∧ Dp K H vr r := by
  obtain ⟨b, es, rfl, hB, hEs⟩ := Dp.tup_inv h
  cases hEs with
  | cons a1 a2 =>
    cases a1
    obtain ⟨vr, rfl, hr⟩ := one_ofD a2
    exact ⟨b, vr, rfl, hB, hr⟩
section
variable {P : Program} {w : World} {K : PySem.W.Frag} {mg : Str → Option Value} {base : Heap}
theorem ok_law_pairs_good (T : Tops w K mg) (G__law_is_name : FnOk P w K mg base CX0 1 T.a__law_is_name T.d__law_is_name ["_law_value"] (spIsNmD K)) :
    FnOk P w K mg base CX0 2 T.a__law_pairs_good T.d__law_pairs_good ["_law_value", "_law_most", "_law_taken"] (spPairsG K) := by
  refine T.F__law_pairs_good.ok sc_law_pairs_good (fun vs H Q E h => ?_) (fun cdv A outer s H vs Q E hr h => ?_)
  · obtain ⟨v, d, k, m, tk, ts, rfl, _⟩ := h
    rfl
  obtain ⟨v, d, k, m, tk, ts, rfl, hD, hsm, hTk, t100, q⟩ := h
  refine ⟨_, (pss_cons (ps_if (PW.pt (pw_or (pt_not (pt_val (pe_callB call_isi rfl T.z_isinstance (by decide +kernel) (pa_cons (pv 0) (pa_cons (pe_bltn (v := .ty "tuple") rfl T.z_tuple (by decide +kernel) rfl) pa_nil))))) (pw_or1 (pt_cmpR op_gt (pe_callB call_len rfl T.z_len PySem.boot_len (pa_cons (pv 0) pa_nil)) (pv 1) (nomark _))))) (pss_one (ps_ret pe_bl)) pss_nil)
    (pss_cons (ps_set (i := 3) sc_law_pairs_good.nd rfl (Or.inl rfl) (pe_callTy call_list_of rfl T.z_list (by decide +kernel) (pa_cons (pv 2) pa_nil)))
    (pss_cons (ps_for PassesOwn.never rfl (pi_tup (pv 0)) (pg_name (i := 4) sc_law_pairs_good.nd rfl (Or.inl rfl)) (pss_cons (ps_if (PW.pt (pw_or (pt_not (pt_val (pe_callB call_isi rfl T.z_isinstance (by decide +kernel) (pa_cons (pv 4) (pa_cons (pe_bltn (v := .ty "tuple") rfl T.z_tuple (by decide +kernel) rfl) pa_nil))))) (pw_or (pt_cmpR op_ne (pe_callB call_len rfl T.z_len PySem.boot_len (pa_cons (pv 4) pa_nil)) pe_int (nomark _)) (pw_or (pt_not (pt_val (pe_call G__law_is_name (hr.mono (by omega)) rfl T.m__law_is_name T.F__law_is_name.kp T.b__law_is_name .nil pass0 (pa_cons (pe_ix ix_tup (pv 4) pe_int (fun _ _ => rfl)) pa_nil)))) (pw_or1 (pt_cmpR op_in_seq (pe_ix ix_tup (pv 4) pe_int (fun _ _ => rfl)) (pv 3) (by rfl))))))) (pss_one (ps_ret pe_bl)) pss_nil)
    (pss_one (ps_expr (pe_bm PySem.F.plainAttrs_list PySem.F.slot_list_append PySem.F.type_list_append mt_append (pv 3) (pa_cons (pe_ix ix_tup (pv 4) pe_int (fun _ _ => rfl)) pa_nil))))))
    (pss_one (ps_ret pe_bl))))), ?_⟩
  refine ⟨_, rfl, v, .ty "tuple", .type (tyD d), .type "tuple", _, rfl, .ty _, ty_data hD, kit_tuple d, _, rfl, ?_⟩
  by_cases ht : isTup d = true
  · rw [ht]
    obtain ⟨ds, rfl⟩ := isTup_ex ht
    obtain ⟨j, rfl⟩ := sm_pos hsm
    obtain ⟨d100, dsm⟩ := sm_tup hsm
    obtain ⟨a, xs, rfl, hS, hA⟩ := Dp.tup_inv hD
    have xl := DpAll.length hA
    have epo : pairsOk m ts (.tuple ds) = (decide ((ds.length : Int) ≤ m) && goP ts ds) := rfl
    refine iteF ?_
    refine ⟨_, rfl, .ref a, _, rfl, .inr ⟨_, hS, rfl⟩, _, rfl, _, _, rfl, rfl, _, rfl, ?_⟩
    by_cases c1 : (ds.length : Int) ≤ m
    · refine if_false_of (decide_eq_false (by omega)) ?_
      rw [epo, decide_eq_true c1, Bool.true_and] at q
      refine ⟨_, rfl, tk, _, rfl, hTk, fun l hl0 => ?_⟩
      refine ⟨_, rfl, a, rfl, ⟨_, SqT.same (Same.new hl0 _) hS⟩, for_tup (K := K) (a := a) (xs := xs) (fun i σ H' => ∃ (v4 : Option V) (zs : List Str), σ = [some (.ref a), some (.int m), some (.ref tk), some (.ref l), v4] ∧ Same H H' ∧ H' l = some (.lst ((ts ++ zs).map V.str)) ∧ zs.length = i ∧ goP ts ds = goP (ts ++ zs) (ds.drop i))
        ⟨none, [], rfl, Same.new hl0 _, by simpa using upd_same, rfl, by simp⟩ (fun i σ H' _ ⟨_, _, _, hs, _⟩ => SqT.same hs hS) ?_ ?_⟩
      · rintro i x σ H' hi ⟨v4, zs, rfl, hs, hL, zl, hg⟩
        obtain ⟨d0, hd0, hx0⟩ := DpAll.get hA hi
        have hx0' := Dp.same hs hx0
        have hid : i < ds.length := (List.getElem?_eq_some_iff.mp hd0).1
        have dm0 := dsm d0 (List.mem_of_getElem? hd0)
        have edrop : ds.drop i = d0 :: ds.drop (i + 1) := by
          rw [List.drop_eq_getElem_cons hid]
          rw [List.getElem?_eq_getElem hid] at hd0
          cases hd0
          rfl
        rw [edrop] at hg
        have hg' : goP ts ds = (match pairNm d0 with
          | some z => !decide (z ∈ ts ++ zs) && goP (ts ++ zs ++ [z]) (ds.drop (i + 1))
          | none => false) := hg
        refine ⟨_, rfl, x, .ty "tuple", .type (tyD d0), .type "tuple", _, rfl, .ty _, ty_data hx0', kit_tuple d0, _, rfl, ?_⟩
        by_cases ht0 : isTup d0 = true
        · rw [ht0]
          obtain ⟨es, rfl⟩ := isTup_ex ht0
          obtain ⟨j2, rfl⟩ := sm_pos dm0
          obtain ⟨e100, esm⟩ := sm_tup dm0
          obtain ⟨b, ys, rfl, hB, hEs⟩ := Dp.tup_inv hx0'
          have yl := DpAll.length hEs
          refine iteF ?_
          refine ⟨_, rfl, .ref b, _, rfl, .inr ⟨_, hB, rfl⟩, rfl, _, rfl, ?_⟩
          by_cases c2 : es.length = 2
          · rw [show (!decide (V.int ((ys.length : Nat) : Int) = V.int 2)) = false by rw [yl, c2]; decide +kernel]
            refine iteF ?_
            obtain ⟨n, r, rfl⟩ := two_of c2
            clear yl c2
            cases hEs with
            | @cons vn _ _ _ hn hEs2 =>
              obtain ⟨vr, rfl, _⟩ := one_ofD hEs2
              have smn := esm n List.mem_cons_self
              refine ⟨_, rfl, b, _, 0, _, rfl, rfl, hB, rfl, vn, n, j2, rfl, hn, smn, fun H3 s3 => ⟨isNmD n, rfl, ?_⟩⟩
              have hL3 := s3 _ _ hL
              cases hn' : isNmD n with
              | false =>
                refine iteT ?_
                have e : pairNm (.tuple [n, r]) = none := by
                  cases n with
                  | str z =>
                    show (if isNm z = true then some z else none) = none
                    have hz : isNm z = false := hn'
                    rw [hz]
                    rfl
                  | _ => rfl
                rw [e] at hg'
                have h := q H3 (hs.trans s3)
                rw [hg'] at h
                exact h
              | true =>
                refine iteF ?_
                obtain ⟨z, rfl⟩ : ∃ z, n = .str z := by
                  cases n with
                  | str z => exact ⟨z, rfl⟩
                  | _ => cases hn'
                cases hn
                have hz : isNm z = true := hn'
                have e : pairNm (.tuple [.str z, r]) = some z := by
                  show (if isNm z = true then some z else none) = some z
                  rw [hz]
                  rfl
                rw [e] at hg'
                have hg2 : goP ts ds = (!decide (z ∈ ts ++ zs) && goP (ts ++ zs ++ [z]) (ds.drop (i + 1))) := hg'
                have hB3 := SqT.same s3 hB
                refine ⟨_, rfl, b, _, 0, _, rfl, rfl, hB3, rfl, _, rfl, l, _, rfl, .inl (SqL.of hL3), rfl, L2.flat_strs _, _, rfl, ?_⟩
                by_cases hin : z ∈ ts ++ zs
                · refine if_true_of (by show (inV _ _) = true; rw [inV_strs]; exact decide_eq_true hin) ?_
                  rw [decide_eq_true hin] at hg2
                  have h := q H3 (hs.trans s3)
                  rw [hg2] at h
                  exact h
                · refine if_false_of (by show (inV _ _) = false; rw [inV_strs]; exact decide_eq_false hin) ?_
                  rw [decide_eq_false hin, Bool.not_false, Bool.true_and] at hg2
                  refine ⟨_, rfl, .inl ⟨rfl, _, SqL.of hL3⟩, _, rfl, b, _, 0, _, rfl, rfl, hB3, rfl, l, _, _, rfl, rfl, hL3, small1000 (by rw [List.length_map, List.length_append]; omega), ?_⟩
                  refine ⟨_, zs ++ [z], rfl, own_same (hs.trans s3) hl0, ?_, by rw [List.length_append, zl]; rfl, by rw [← List.append_assoc]; exact hg2⟩
                  rw [upd_same, ← List.append_assoc]
                  simp
          · rw [show (!decide (V.int ((ys.length : Nat) : Int) = V.int 2)) = true by rw [yl, decide_eq_false (fun e => c2 (by injection e with e; omega))]; rfl]
            refine iteT ?_
            have e : pairNm (.tuple es) = none := by
              cases hp : pairNm (.tuple es) with
              | none => rfl
              | some z =>
                obtain ⟨r, er, _⟩ := pairNm_some hp
                cases er
                exact absurd rfl c2
            rw [e] at hg'
            have h := q H' hs
            rw [hg'] at h
            exact h
        · have ht' : isTup d0 = false := by simpa using ht0
          rw [ht']
          refine iteT ?_
          have e : pairNm d0 = none := by
            cases hp : pairNm d0 with
            | none => rfl
            | some z =>
              obtain ⟨r, er, _⟩ := pairNm_some hp
              subst er
              cases ht'
          rw [e] at hg'
          have h := q H' hs
          rw [hg'] at h
          exact h
      · rintro σ H' ⟨v4, zs, rfl, hs, hL, zl, hg⟩
        rw [xl, List.drop_length] at hg
        have h := q H' hs
        rw [hg] at h
        exact h
    · refine if_true_of (decide_eq_true (by omega)) ?_
      have h := q H (Same.refl _)
      rw [epo, decide_eq_false c1] at h
      exact h
  · have ht' : isTup d = false := by simpa using ht
    rw [ht']
    have h := q H (Same.refl _)
    rw [pairsOk_no ht'] at h
    exact iteT h
theorem ok_law_first_fault (T : Tops w K mg) (G__law_names_good : FnOk P w K mg base CX0 2 T.a__law_names_good T.d__law_names_good ["_law_value", "_law_least", "_law_most"] (spNamesD K))
    (G__law_pairs_good : FnOk P w K mg base CX0 2 T.a__law_pairs_good T.d__law_pairs_good ["_law_value", "_law_most", "_law_taken"] (spPairsG K)) :
    FnOk P w K mg base CX0 3 T.a__law_first_fault T.d__law_first_fault ["_law_parts_here"] (spFirstFault K) := by
  refine T.F__law_first_fault.ok sc_law_first_fault (fun vs H Q E h => ?_) (fun cdv A outer s H vs Q E hr h => ?_)
  · obtain ⟨pl, v1, v2, v3, v4, d1, d2, d3, d4, k, rfl, _⟩ := h
    rfl
  obtain ⟨pl, v1, v2, v3, v4, d1, d2, d3, d4, k, rfl, hPl, hD1, hD2, hD3, hD4, m1, m2, m3, m4, hb, q⟩ := h
  refine ⟨_, (pss_cons (ps_if (pt_not (pt_val (pe_call G__law_names_good (hr.mono (by omega)) rfl T.m__law_names_good T.F__law_names_good.kp T.b__law_names_good .nil pass0 (pa_cons (pe_ix ix_list (pv 0) pe_int (fun _ _ => rfl)) (pa_cons pe_int (pa_cons pe_int pa_nil)))))) (pss_one (ps_ret (pe_tup (pa_cons pe_str (pa_cons (pe_tup pa_nil) pa_nil))))) pss_nil)
    (pss_cons (ps_if (pt_not (pt_val (pe_call G__law_names_good (hr.mono (by omega)) rfl T.m__law_names_good T.F__law_names_good.kp T.b__law_names_good .nil pass0 (pa_cons (pe_ix ix_list (pv 0) pe_int (fun _ _ => rfl)) (pa_cons pe_int (pa_cons pe_int pa_nil)))))) (pss_one (ps_ret (pe_tup (pa_cons pe_str (pa_cons (pe_tup pa_nil) pa_nil))))) pss_nil)
    (pss_cons (ps_if (pt_not (pt_val (pe_call G__law_pairs_good (hr.mono (by omega)) rfl T.m__law_pairs_good T.F__law_pairs_good.kp T.b__law_pairs_good .nil pass0 (pa_cons (pe_ix ix_list (pv 0) pe_int (fun _ _ => rfl)) (pa_cons pe_int (pa_cons (pe_ix ix_list (pv 0) pe_int (fun _ _ => rfl)) pa_nil)))))) (pss_one (ps_ret (pe_tup (pa_cons pe_str (pa_cons (pe_tup pa_nil) pa_nil))))) pss_nil)
    (pss_cons (ps_if (pt_not (pt_val (pe_call G__law_pairs_good (hr.mono (by omega)) rfl T.m__law_pairs_good T.F__law_pairs_good.kp T.b__law_pairs_good .nil pass0 (pa_cons (pe_ix ix_list (pv 0) pe_int (fun _ _ => rfl)) (pa_cons pe_int (pa_cons (pe_op op_cat (pe_callTy call_list_of rfl T.z_list (by decide +kernel) (pa_cons (pe_ix ix_list (pv 0) pe_int (fun _ _ => rfl)) pa_nil)) (pe_lc (own := [("_law_pair", 2)]) (g := gName 2) (tt := tYes) (te := tOp (rIxT K) (tVar 2) (tC (.int 0))) rfl sc_law_first_fault.nd (pi_tup (pe_ix ix_list (pv 0) pe_int (fun _ _ => rfl))) (blkOk_by (own := [("_law_pair", 2)]) (N := N_law_first_fault) (sc := defScope s_law_first_fault) (by decide +kernel)) (fun _ _ _ _ _ => (pg_name (i := 2) sc_law_first_fault.nd rfl (Or.inl rfl))) (fun _ _ _ _ _ => pts_nil) (fun _ _ _ _ _ => (pe_ix ix_tup (pv 2) pe_int (fun _ _ => rfl))))) pa_nil)))))) (pss_one (ps_ret (pe_tup (pa_cons pe_str (pa_cons (pe_tup pa_nil) pa_nil))))) pss_nil)
    (pss_cons (ps_for PassesOwn.never rfl (pi_range1 rfl T.z_range (pa_cons (pe_callB call_len rfl T.z_len PySem.boot_len (pa_cons (pe_ix ix_list (pv 0) pe_int (fun _ _ => rfl)) pa_nil)) pa_nil)) (pg_name (i := 1) sc_law_first_fault.nd rfl (Or.inl rfl)) (pss_one (ps_if (pt_not (pt_val (pe_callB call_isi rfl T.z_isinstance (by decide +kernel) (pa_cons (pe_ix ix_tup (pe_ix ix_tup (pe_ix ix_list (pv 0) pe_int (fun _ _ => rfl)) (pv 1) (fun _ _ => rfl)) pe_int (fun _ _ => rfl)) (pa_cons (pe_bltn (v := .ty "tuple") rfl T.z_tuple (by decide +kernel) rfl) pa_nil))))) (pss_one (ps_ret (pe_tup (pa_cons pe_str (pa_cons (pe_tup (pa_cons pe_str (pa_cons (pv 1) pa_nil))) pa_nil))))) pss_nil)))
    (pss_cons (ps_for PassesOwn.never rfl (pi_range1 rfl T.z_range (pa_cons (pe_callB call_len rfl T.z_len PySem.boot_len (pa_cons (pe_ix ix_list (pv 0) pe_int (fun _ _ => rfl)) pa_nil)) pa_nil)) (pg_name (i := 1) sc_law_first_fault.nd rfl (Or.inl rfl)) (pss_one (ps_if (pt_not (pt_val (pe_callB call_isi rfl T.z_isinstance (by decide +kernel) (pa_cons (pe_ix ix_tup (pe_ix ix_tup (pe_ix ix_list (pv 0) pe_int (fun _ _ => rfl)) (pv 1) (fun _ _ => rfl)) pe_int (fun _ _ => rfl)) (pa_cons (pe_bltn (v := .ty "tuple") rfl T.z_tuple (by decide +kernel) rfl) pa_nil))))) (pss_one (ps_ret (pe_tup (pa_cons pe_str (pa_cons (pe_tup (pa_cons pe_str (pa_cons (pv 1) pa_nil))) pa_nil))))) pss_nil)))
    (pss_one (ps_ret pe_non)))))))), ?_⟩
  have out : ∀ {H1 : Hp} {pt : Str}, Same H H1 → partsFault d1 d2 d3 d4 = some pt → ∀ pe, H1 pe = none → ∀ t, upd H1 pe (.tup []) t = none → Q (.ref t) (upd (upd H1 pe (.tup [])) t (.tup [.str pt, .ref pe])) := fun {H1 pt} s e pe hpe t ht => by
    have s2 := Same.new hpe (.tup [])
    have s3 := Same.new ht (.tup [.str pt, .ref pe])
    refine q _ _ ((s.trans s2).trans s3) ?_
    have ef : faultD d1 d2 d3 d4 = some (pt, .tuple []) := by unfold faultD; rw [e]
    rw [ef]
    exact .tup (SqT.of upd_same) (.cons (.str _) (.cons (.tup (SqT.same s3 (SqT.of upd_same)) .nil) .nil))
  refine ⟨_, rfl, pl, _, 0, _, rfl, rfl, hPl, rfl, v1, d1, k, _, _, rfl, hD1, m1, fun H1 s1 => ⟨_, rfl, ?_⟩⟩
  cases c1 : namesD 2 4 d1 with
  | false =>
    refine if_true_of rfl ?_
    have e : partsFault d1 d2 d3 d4 = some ("words" : Str) := by unfold partsFault; rw [if_pos c1]
    exact ⟨by show 0 ≤ sizeLine; decide, fun pe hpe => ⟨by show 2 ≤ sizeLine; decide, fun t ht => out s1 e pe hpe t ht⟩⟩
  | true =>
    refine if_false_of rfl ?_
    have n1 : ¬ namesD 2 4 d1 = false := by rw [c1]; exact Bool.noConfusion
    refine ⟨_, rfl, pl, _, 1, _, rfl, rfl, SqL.same s1 hPl, rfl, v2, d2, k, _, _, rfl, Dp.same s1 hD2, m2, fun H2 s2 => ⟨_, rfl, ?_⟩⟩
    have s12 := s1.trans s2
    cases c2 : namesD 1 4 d2 with
    | false =>
      refine if_true_of rfl ?_
      have e : partsFault d1 d2 d3 d4 = some ("sources" : Str) := by unfold partsFault; rw [if_neg n1, if_pos c2]
      exact ⟨by show 0 ≤ sizeLine; decide, fun pe hpe => ⟨by show 2 ≤ sizeLine; decide, fun t ht => out s12 e pe hpe t ht⟩⟩
    | true =>
      refine if_false_of rfl ?_
      have n2 : ¬ namesD 1 4 d2 = false := by rw [c2]; exact Bool.noConfusion
      obtain ⟨e2s, rfl, l1, l4, es, nd2, nn2⟩ := namesD_yes c2
      obtain ⟨as, rfl, hSo⟩ := names_heap hD2 es
      have sl : (strsOf e2s).length = e2s.length := by have := congrArg List.length es; rw [List.length_map] at this; exact this.symm
      have hT : strsOf (tupOf (.tuple e2s)) = strsOf e2s := rfl
      refine ⟨_, rfl, pl, _, 2, _, rfl, rfl, SqL.same s12 hPl, rfl, _, rfl, pl, _, 1, _, rfl, rfl, SqL.same s12 hPl, rfl, v3, d3, k, _, as, strsOf e2s, rfl, Dp.same s12 hD3, m3, .inr (SqT.same s12 hSo), by omega, fun H3 s3 => ⟨_, rfl, ?_⟩⟩
      have s13 := s12.trans s3
      cases c3 : pairsOk 6 (strsOf e2s) d3 with
      | false =>
        refine if_true_of rfl ?_
        have e : partsFault d1 (.tuple e2s) d3 d4 = some ("derived" : Str) := by unfold partsFault; rw [if_neg n1, if_neg n2, hT, if_pos c3]
        exact ⟨by show 0 ≤ sizeLine; decide, fun pe hpe => ⟨by show 2 ≤ sizeLine; decide, fun t ht => out s13 e pe hpe t ht⟩⟩
      | true =>
        refine if_false_of rfl ?_
        have n3 : ¬ pairsOk 6 (strsOf e2s) d3 = false := by rw [c3]; exact Bool.noConfusion
        obtain ⟨e3s, rfl, l6, g3⟩ := pairsOk_yes c3
        obtain ⟨i1, i2, i3⟩ := goP_names e3s _ g3
        have nl : (nmsOf e3s).length = e3s.length := by have := congrArg List.length i1; rw [List.length_map, List.length_map] at this; exact this.symm
        obtain ⟨a3, x3, rfl, hA3, hX3⟩ := Dp.tup_inv hD3
        have xl3 := DpAll.length hX3
        have pn : ∀ {i : Nat} {x : V}, x3[i]? = some x → ∃ (z : Str) (b : Addr) (vr : V) (r : PyData), (nmsOf e3s)[i]? = some z ∧ e3s[i]? = some (.tuple [.str z, r]) ∧ x = .ref b ∧ SqT K H b [.str z, vr] ∧ Dp K H vr r := fun {i x} hx => by
          obtain ⟨d0, hd0, hx0⟩ := DpAll.get hX3 hx
          have hin : i < (nmsOf e3s).length := by rw [nl]; exact (List.getElem?_eq_some_iff.mp hd0).1
          have hz : (nmsOf e3s)[i]? = some (nmsOf e3s)[i] := List.getElem?_eq_getElem hin
          have hp : pairNm d0 = some (nmsOf e3s)[i] := by
            have := congrArg (fun l => l[i]?) i1
            try dsimp only at this
            rw [List.getElem?_map, List.getElem?_map, hd0, hz] at this
            exact Option.some.inj this
          obtain ⟨b, vr, r, rfl, hB, er, hr⟩ := pair_heap hx0 hp
          rw [er] at hd0
          exact ⟨_, b, vr, r, hz, hd0, rfl, hB, hr⟩
        -- list(sources) + [names]
        refine ⟨_, rfl, pl, _, 3, _, rfl, rfl, SqL.same s13 hPl, rfl, _, rfl, pl, _, 1, _, rfl, rfl, SqL.same s13 hPl, rfl, as, _, rfl, .inr (SqT.same s13 hSo), fun c1' hc1' => ?_⟩
        have s14 := s13.trans (Same.new hc1' (.lst ((strsOf e2s).map V.str)))
        have ec1 : upd H3 c1' (.lst ((strsOf e2s).map V.str)) c1' = some (.lst ((strsOf e2s).map V.str)) := upd_same
        generalize upd H3 c1' (.lst ((strsOf e2s).map V.str)) = H4 at s14 ec1
        refine ⟨_, rfl, pl, _, 2, _, rfl, rfl, SqL.same s14 hPl, rfl, a3, rfl, ⟨_, SqT.same s14 hA3⟩, fun D hD0 => lc_tup (K := K) (a := a3) (xs := x3) (fun i H' => Same H4 H' ∧ H' D = some (.lst (((nmsOf e3s).take i).map V.str)))
          ⟨Same.new hD0 _, upd_same⟩ (fun i H' _ ⟨hs, _⟩ => SqT.same (s14.trans hs) hA3) ?_ ?_⟩
        · rintro i x H' hx ⟨hs, hbD⟩
          obtain ⟨z, b, vr, r, hz, _, rfl, hB, _⟩ := pn hx
          have hin : i < (nmsOf e3s).length := (List.getElem?_eq_some_iff.mp hz).1
          refine ⟨rfl, tYes_of ?_⟩
          refine ⟨_, rfl, b, _, 0, _, rfl, rfl, SqT.same (s14.trans hs) hB, rfl, _, hbD, small1000 (by rw [List.length_map, List.length_take]; omega), own_same hs hD0, ?_⟩
          rw [upd_same, take_more hz, List.map_append]
          rfl
        rintro H5 ⟨s45, hbD⟩
        rw [xl3, ← nl, List.take_length] at hbD
        refine ⟨c1', D, _, _, rfl, rfl, s45 _ _ ec1, hbD, Nat.le_of_lt (small1000 (by rw [List.length_map, List.length_map]; omega)), fun c hc => ?_⟩
        have s15 := (s14.trans s45).trans (Same.new hc (.lst ((strsOf e2s).map V.str ++ (nmsOf e3s).map V.str)))
        have hc' : SqL K (upd H5 c (.lst ((strsOf e2s).map V.str ++ (nmsOf e3s).map V.str))) c ((strsOf e2s ++ nmsOf e3s).map V.str) := by rw [List.map_append]; exact SqL.of upd_same
        generalize upd H5 c (.lst ((strsOf e2s).map V.str ++ (nmsOf e3s).map V.str)) = H6 at s15 hc'
        refine ⟨v4, d4, k, _, c, strsOf e2s ++ nmsOf e3s, rfl, Dp.same s15 hD4, m4, .inl hc', by rw [List.length_append]; omega, fun H7 s7 => ⟨_, rfl, ?_⟩⟩
        have s17 := s15.trans s7
        have hT3 : nmsOf (tupOf (.tuple e3s)) = nmsOf e3s := rfl
        cases c4 : pairsOk 4 (strsOf e2s ++ nmsOf e3s) d4 with
        | false =>
          refine if_true_of rfl ?_
          have e : partsFault d1 (.tuple e2s) (.tuple e3s) d4 = some ("effects" : Str) := by unfold partsFault; rw [if_neg n1, if_neg n2, hT, if_neg n3, hT3, if_pos c4]
          exact ⟨by show 0 ≤ sizeLine; decide, fun pe hpe => ⟨by show 2 ≤ sizeLine; decide, fun t ht => out s17 e pe hpe t ht⟩⟩
        | true =>
          refine if_false_of rfl ?_
          have e : partsFault d1 (.tuple e2s) (.tuple e3s) d4 = none := by unfold partsFault; rw [if_neg n1, if_neg n2, hT, if_neg n3, hT3, if_neg (by rw [c4]; exact Bool.noConfusion)]
          obtain ⟨b3, b4⟩ := hb e
          obtain ⟨e4s, rfl, l4', g4⟩ := pairsOk_yes c4
          obtain ⟨a4, x4, rfl, hA4, hX4⟩ := Dp.tup_inv hD4
          have xl4 := DpAll.length hX4
          have efd : faultD d1 (.tuple e2s) (.tuple e3s) (.tuple e4s) = (bodiesFault e3s e4s).map fun q => (("rows" : Str), PyData.tuple [.str (kdS q.1), .int (q.2 : Nat)]) := by unfold faultD; rw [e]; rfl
          rw [efd] at q
          clear efd out hb pn
          have rowsOut : ∀ {H1 : Hp} {kd : Bool} {i : Nat}, Same H H1 → bodiesFault e3s e4s = some (kd, i) → ∀ pe, H1 pe = none → ∀ t, upd H1 pe (.tup [.str (kdS kd), .int (i : Nat)]) t = none → Q (.ref t) (upd (upd H1 pe (.tup [.str (kdS kd), .int (i : Nat)])) t (.tup [.str "rows", .ref pe])) := fun {H1 kd i} s eb pe hpe t ht => by
            have s2 := Same.new hpe (.tup [.str (kdS kd), .int (i : Nat)])
            have s3 := Same.new ht (.tup [.str "rows", .ref pe])
            refine q _ _ ((s.trans s2).trans s3) ?_
            rw [eb]
            exact .tup (SqT.of upd_same) (.cons (.str _) (.cons (.tup (SqT.same s3 (SqT.of upd_same)) (.cons (.str _) (.cons (.int _) .nil))) .nil))
          refine ⟨_, rfl, pl, _, 2, _, rfl, rfl, SqL.same s17 hPl, rfl, .ref a3, _, rfl, .inr ⟨_, SqT.same s17 hA3, rfl⟩, ((x3.length : Nat) : Int), rfl, by omega, by omega, for_range (lo := 0) (n := ((x3.length : Nat) : Int).toNat)
            (fun i σ H' => ∃ v1 : Option V, σ = [some (.ref pl), v1, none] ∧ Same H H' ∧ firstBad 0 e3s = firstBad i (e3s.drop i)) ⟨none, rfl, s17, rfl⟩ ?_ ?_⟩
          · rintro i σ H8 hi ⟨w1, rfl, s8, fb⟩
            rw [Int.toNat_natCast] at hi
            rw [show (0 : Int) + (i : Nat) = (i : Nat) by omega]
            have hx : x3[i]? = some x3[i] := List.getElem?_eq_getElem hi
            obtain ⟨d0, hd0, hx0⟩ := DpAll.get hX3 hx
            obtain ⟨z, r, rfl, hg⟩ := b3 d0 (List.mem_of_getElem? hd0)
            obtain ⟨b, vr, exb, hB, hr⟩ := pair2_at hx0
            rw [firstBad_drop hd0] at fb
            refine ⟨_, rfl, pl, _, 2, _, rfl, rfl, SqL.same s8 hPl, rfl, _, rfl, a3, _, (i : Nat), .ref b, rfl, rfl, SqT.same s8 hA3, atI_nat (by rw [hx, exb]), b, _, 1, _, rfl, rfl, SqT.same s8 hB, rfl, vr, .ty "tuple", .type (tyD r), .type "tuple", _, rfl, .ty _, ty_data (Dp.same s8 hr), kit_tuple r, _, rfl, ?_⟩
            cases hr' : isTup r with
            | true =>
              refine if_false_of rfl ?_
              exact ⟨_, rfl, s8, by rw [fb]; exact if_pos hr'⟩
            | false =>
              refine if_true_of rfl ?_
              have eb : bodiesFault e3s e4s = some (false, i) := by
                unfold bodiesFault
                rw [fb, if_neg (show ¬ rowsTup (.tuple [.str z, r]) = true by show ¬ isTup r = true; rw [hr']; exact Bool.noConfusion)]
              refine ⟨_, rfl, by show 2 ≤ sizeLine; decide, fun pe hpe => ⟨by show 2 ≤ sizeLine; decide, fun t ht => rowsOut s8 eb pe hpe t ht⟩⟩
          · rintro σ H8 ⟨w1, rfl, s8, fb⟩
            rw [Int.toNat_natCast, xl3, List.drop_length] at fb
            have fb3 : firstBad 0 e3s = none := fb
            have eB : bodiesFault e3s e4s = (firstBad 0 e4s).map fun i => (true, i) := by
              unfold bodiesFault
              rw [fb3]
            refine ⟨_, rfl, pl, _, 3, _, rfl, rfl, SqL.same s8 hPl, rfl, .ref a4, _, rfl, .inr ⟨_, SqT.same s8 hA4, rfl⟩, ((x4.length : Nat) : Int), rfl, by omega, by omega, for_range (lo := 0) (n := ((x4.length : Nat) : Int).toNat)
              (fun i σ H' => ∃ v1 : Option V, σ = [some (.ref pl), v1, none] ∧ Same H H' ∧ firstBad 0 e4s = firstBad i (e4s.drop i)) ⟨w1, rfl, s8, rfl⟩ ?_ ?_⟩
            · rintro i σ H9 hi ⟨w1, rfl, s9, fb⟩
              rw [Int.toNat_natCast] at hi
              rw [show (0 : Int) + (i : Nat) = (i : Nat) by omega]
              have hx : x4[i]? = some x4[i] := List.getElem?_eq_getElem hi
              obtain ⟨d0, hd0, hx0⟩ := DpAll.get hX4 hx
              obtain ⟨z, r, rfl, hg⟩ := b4 d0 (List.mem_of_getElem? hd0)
              obtain ⟨b, vr, exb, hB, hr⟩ := pair2_at hx0
              rw [firstBad_drop hd0] at fb
              refine ⟨_, rfl, pl, _, 3, _, rfl, rfl, SqL.same s9 hPl, rfl, _, rfl, a4, _, (i : Nat), .ref b, rfl, rfl, SqT.same s9 hA4, atI_nat (by rw [hx, exb]), b, _, 1, _, rfl, rfl, SqT.same s9 hB, rfl, vr, .ty "tuple", .type (tyD r), .type "tuple", _, rfl, .ty _, ty_data (Dp.same s9 hr), kit_tuple r, _, rfl, ?_⟩
              cases hr' : isTup r with
              | true =>
                refine if_false_of rfl ?_
                exact ⟨_, rfl, s9, by rw [fb]; exact if_pos hr'⟩
              | false =>
                refine if_true_of rfl ?_
                have eb : bodiesFault e3s e4s = some (true, i) := by
                  rw [eB, fb, if_neg (show ¬ rowsTup (.tuple [.str z, r]) = true by show ¬ isTup r = true; rw [hr']; exact Bool.noConfusion)]
                  rfl
                refine ⟨_, rfl, by show 2 ≤ sizeLine; decide, fun pe hpe => ⟨by show 2 ≤ sizeLine; decide, fun t ht => rowsOut s9 eb pe hpe t ht⟩⟩
            · rintro σ H9 ⟨w1, rfl, s9, fb⟩
              rw [Int.toNat_natCast, xl4, List.drop_length] at fb
              have fb4 : firstBad 0 e4s = none := fb
              refine q _ _ s9 ?_
              rw [eB, fb4]
              exact .non
end
end K01
namespace K01
open PySem PySem.Spec PyProof.Rows L2 Td
/-! ### data that draws leave alone -/
mutual
inductive Dm (K : PySem.W.Frag) (N : Addr → Prop) (H : Hp) : V → PyData → Prop
  | non : Dm K N H .non .none
  | bl (b : Bool) : Dm K N H (.bl b) (.bool b)
  | int (i : Int) : Dm K N H (.int i) (.int i)
  | str (x : Str) : Dm K N H (.str x) (.str x)
  | lst {a : Addr} {xs : List V} {ds : List PyData} : ¬ N a → SqL K H a xs → DmAll K N H xs ds → Dm K N H (.ref a) (.list ds)
  | tup {a : Addr} {xs : List V} {ds : List PyData} : SqT K H a xs → DmAll K N H xs ds → Dm K N H (.ref a) (.tuple ds)
inductive DmAll (K : PySem.W.Frag) (N : Addr → Prop) (H : Hp) : List V → List PyData → Prop
  | nil : DmAll K N H [] []
  | cons {v : V} {vs : List V} {d : PyData} {ds : List PyData} : Dm K N H v d → DmAll K N H vs ds → DmAll K N H (v :: vs) (d :: ds)
end
section
variable {K : PySem.W.Frag} {N : Addr → Prop} {st sc : Addr} {H H' : Hp}
theorem sqL_keepN {a : Addr} {xs : List V} (k : ∀ b o, ¬ N b → H b = some o → H' b = some o) (n : ¬ N a) (h : SqL K H a xs) : SqL K H' a xs := by
  rcases h with (h | ⟨o, h⟩) | h
  · exact .inl (.inl (k _ _ n h))
  · exact .inl (.inr ⟨o, k _ _ n h⟩)
  · exact .inr h
/-- all of N is there -/
def Known (N : Addr → Prop) (H : Hp) : Prop := ∀ b, N b → H b ≠ none
theorem Known.not {a : Addr} (h : Known N H) (ha : H a = none) : ¬ N a := fun n => h a n ha
theorem Known.same (h : Known N H) (s : Same H H') : Known N H' := fun b n e => by
  cases z : H b with
  | none => exact h b n z
  | some o => rw [s b o z] at e; cases e
theorem Known.keep (h : Known N H) (k : Keep st H H') (o : StOk H' st sc) : Known N H' := fun b n e => by
  by_cases eb : b = st
  · obtain ⟨L, hL⟩ := o.at
    rw [eb, hL] at e
    cases e
  · cases z : H b with
    | none => exact h b n z
    | some o' => rw [k b o' eb z] at e; cases e
mutual
theorem Dm.keep (k : ∀ b o, ¬ N b → H b = some o → H' b = some o) (tk : TK H H') : ∀ {v : V} {d : PyData}, Dm K N H v d → Dm K N H' v d
  | _, _, .non => .non
  | _, _, .bl b => .bl b
  | _, _, .int i => .int i
  | _, _, .str x => .str x
  | _, _, .lst n s r => .lst n (sqL_keepN k n s) (DmAll.keep k tk r)
  | _, _, .tup s r => .tup (SqT.tk tk s) (DmAll.keep k tk r)
theorem DmAll.keep (k : ∀ b o, ¬ N b → H b = some o → H' b = some o) (tk : TK H H') : ∀ {v : List V} {d : List PyData}, DmAll K N H v d → DmAll K N H' v d
  | _, _, .nil => .nil
  | _, _, .cons a b => .cons (Dm.keep k tk a) (DmAll.keep k tk b)
end
mutual
theorem Dm.dp : ∀ {v : V} {d : PyData}, Dm K N H v d → Dp K H v d
  | _, _, .non => .non
  | _, _, .bl b => .bl b
  | _, _, .int i => .int i
  | _, _, .str x => .str x
  | _, _, .lst _ s r => .lst s (DmAll.dp r)
  | _, _, .tup s r => .tup s (DmAll.dp r)
theorem DmAll.dp : ∀ {v : List V} {d : List PyData}, DmAll K N H v d → DpAll K H v d
  | _, _, .nil => .nil
  | _, _, .cons a b => .cons (Dm.dp a) (DmAll.dp b)
end
mutual
theorem Dm.same (s : Same H H') : ∀ {v : V} {d : PyData}, Dm K N H v d → Dm K N H' v d
  | _, _, .non => .non
  | _, _, .bl b => .bl b
  | _, _, .int i => .int i
  | _, _, .str x => .str x
  | _, _, .lst n q r => .lst n (SqL.same s q) (DmAll.same s r)
  | _, _, .tup q r => .tup (SqT.same s q) (DmAll.same s r)
theorem DmAll.same (s : Same H H') : ∀ {v : List V} {d : List PyData}, DmAll K N H v d → DmAll K N H' v d
  | _, _, .nil => .nil
  | _, _, .cons a b => .cons (Dm.same s a) (DmAll.same s b)
end
mutual
theorem Tn.dm : ∀ {v : V} {d : PyData}, Tn K H v d → Dm K N H v d
  | _, _, .non => .non
  | _, _, .bl b => .bl b
  | _, _, .int i => .int i
  | _, _, .str x => .str x
  | _, _, .tup q r => .tup q (TnAll.dm r)
theorem TnAll.dm : ∀ {v : List V} {d : List PyData}, TnAll K H v d → DmAll K N H v d
  | _, _, .nil => .nil
  | _, _, .cons a b => .cons (Tn.dm a) (TnAll.dm b)
end
theorem DmAll.strs (zs : List Str) : DmAll K N H (zs.map V.str) (zs.map PyData.str) := by
  induction zs with
  | nil => exact .nil
  | cons z r ih => exact .cons (.str z) ih
theorem DmAll.append : ∀ {vs ws : List V} {ds es : List PyData}, DmAll K N H vs ds → DmAll K N H ws es → DmAll K N H (vs ++ ws) (ds ++ es)
  | _, _, _, _, .nil, h => h
  | _, _, _, _, .cons a r, h => .cons a (DmAll.append r h)
theorem DmAll.take : ∀ {vs : List V} {ds : List PyData} (i : Nat), DmAll K N H vs ds → DmAll K N H (vs.take i) (ds.take i)
  | _, _, 0, _ => by rw [List.take_zero, List.take_zero]; exact .nil
  | _, _, _ + 1, .nil => .nil
  | _, _, i + 1, .cons a b => .cons a (DmAll.take i b)
theorem DmAll.drop : ∀ {vs : List V} {ds : List PyData} (i : Nat), DmAll K N H vs ds → DmAll K N H (vs.drop i) (ds.drop i)
  | _, _, 0, h => h
  | _, _, _ + 1, .nil => .nil
  | _, _, i + 1, .cons _ b => DmAll.drop i b
end
/-! ### small data -/
theorem len_app (x y : Str) : (x ++ y).length = x.length + y.length := Array.size_append
theorem strOk_app {x y : Str} (hx : PyData.strOk x = true) (hy : PyData.strOk y = true) : PyData.strOk (x ++ y) = true := by
  unfold PyData.strOk at *
  show (x.cps ++ y.cps).all _ = true
  rw [Array.all_append, hx, hy]
  rfl
theorem strOk_cut {z : Str} (lo hi : Option Int) (h : PyData.strOk z = true) : PyData.strOk (cutS z lo hi) = true := by
  unfold PyData.strOk at *
  rw [← Array.all_toList] at h ⊢
  rw [List.all_eq_true] at h ⊢
  intro c hc
  exact h c (List.mem_of_mem_drop (List.mem_of_mem_take (by simpa [cutS] using hc)))
theorem sm_of_str {k : Nat} {z : Str} (h : z.length ≤ 100) (ho : PyData.strOk z = true) : smB (k + 1) (.str z) = true := by
  simp only [smB, ho, decide_eq_true h, Bool.and_true]
theorem sm_of_nm {k : Nat} {z : Str} (h : isNm z = true) : smB (k + 1) (.str z) = true := sm_of_str (by have := (isNm_len h).2.1; omega) (nm_ok h)
theorem sm_of_tup {k : Nat} {ds : List PyData} (hl : ds.length ≤ 100) (h : ∀ x ∈ ds, smB k x = true) : smB (k + 1) (.tuple ds) = true := by
  simp only [smB, Bool.and_eq_true, List.all_eq_true, decide_eq_true_eq]
  exact ⟨hl, h⟩
theorem sm_of_list {k : Nat} {ds : List PyData} (hl : ds.length ≤ 100) (h : ∀ x ∈ ds, smB k x = true) : smB (k + 1) (.list ds) = true := by
  simp only [smB, Bool.and_eq_true, List.all_eq_true, decide_eq_true_eq]
  exact ⟨hl, h⟩
theorem sm_up : ∀ (k : Nat) (d : PyData), smB k d = true → smB (k + 1) d = true
  | 0, d, h => by simp [smB] at h
  | k + 1, .none, _ => rfl
  | k + 1, .bool _, _ => rfl
  | k + 1, .int _, _ => rfl
  | k + 1, .str z, h => by simpa [smB] using h
  | k + 1, .list ds, h => by
    simp only [smB, Bool.and_eq_true, List.all_eq_true] at h
    refine sm_of_list (of_decide_eq_true h.1) fun x hx => sm_up k x (h.2 x hx)
  | k + 1, .tuple ds, h => by
    simp only [smB, Bool.and_eq_true, List.all_eq_true] at h
    refine sm_of_tup (of_decide_eq_true h.1) fun x hx => sm_up k x (h.2 x hx)
theorem sm_le {j k : Nat} {d : PyData} (h : smB j d = true) (l : j ≤ k) : smB k d = true := by
  induction l with
  | refl => exact h
  | step _ ih => exact sm_up _ _ ih
theorem sm_names {k : Nat} {zs : List Str} (h : ∀ z ∈ zs, isNm z = true) : ∀ x ∈ zs.map PyData.str, smB (k + 1) x = true := fun x hx => by
  obtain ⟨z, hz, rfl⟩ := List.mem_map.mp hx
  exact sm_of_nm (h z hz)
theorem sl_all {K : PySem.W.Frag} {H : Hp} {a : Addr} {xs : List V} {lo hi : Option Int} {Q : VK} (hA : SqT K H a xs) (k : ∀ (p : Addr) H', Same H H' → SqT K H' p (cutV xs lo hi) → Q (.ref p) H') : rSlA K (.ref a) lo hi H Q := by
  refine ⟨a, xs, rfl, hA, fun h => k a H (Same.refl _) ?_, fun _ p hp => k p _ (Same.new hp _) (SqT.of upd_same)⟩
  unfold cutV
  rw [h.1, h.2, List.drop_zero, Nat.sub_zero, List.take_length]
  exact hA
theorem cut_from (xs : List V) (k : Nat) : cutV xs (some (k : Int)) none = xs.drop k := by
  unfold cutV
  rw [HT.sIx_none, HT.sIx_nat]
  by_cases h : k ≤ xs.length
  · rw [Nat.min_eq_left h]
    exact List.take_of_length_le (by rw [List.length_drop]; omega)
  · rw [Nat.min_eq_right (by omega), Nat.sub_self, List.take_zero, List.drop_of_length_le (by omega)]
theorem stGo {H H' : Hp} {st sc : Addr} (h : StOk H st sc) (s : Same H H') : StOk H' st sc := by
  obtain ⟨cs, i, d, c, z, h1, h2, r⟩ := h
  exact ⟨cs, i, d, c, z, s _ _ h1, s _ _ h2, r⟩
theorem at_word {ws : List Str} {r : Int} (r0 : 0 ≤ r) (h : r.toNat < ws.length) : atI (ws.map V.str) r = some (.str ws[r.toNat]) := by
  have e : atI (ws.map V.str) ((r.toNat : Nat) : Int) = some (.str ws[r.toNat]) := atI_nat (by simp [h])
  rwa [Int.toNat_of_nonneg r0] at e
def spBadName (K : PySem.W.Frag) : Sp := fun vs H Q _ => ∃ (N : Addr → Prop) (st sc : Addr) (z : Str), vs = [.ref st, .str z] ∧ Known N H ∧ StOk H st sc ∧ isNm z = true ∧ ∀ (v : V) (d : PyData) H', Keep st H H' → StOk H' st sc → Dm K N H' v d → smB 4 d = true → Q v H'
section
variable {P : Program} {w : World} {K : PySem.W.Frag} {mg : Str → Option Value} {base : Heap}
theorem ok_law_bad_name (T : Tops w K mg) (G__law_draw : FnOk P w K mg base CX0 1 T.a__law_draw T.d__law_draw ["_law_state_here", "_law_many_here"] spDraw) :
    FnOk P w K mg base CX0 2 T.a__law_bad_name T.d__law_bad_name ["_law_state_here", "_law_good"] (spBadName K) := by
  refine T.F__law_bad_name.ok sc_law_bad_name (fun vs H Q E h => ?_) (fun cdv A outer s H vs Q E hr h => ?_)
  · obtain ⟨N, st, sc, z, rfl, _⟩ := h
    rfl
  obtain ⟨N, st, sc, z, rfl, hK, hst, hz, q⟩ := h
  have z8 := (isNm_len hz).2.1
  have zo := nm_ok hz
  have zs : z.length ≤ sizeLine := Nat.le_of_lt (small1000 (by omega))
  have le100 : ∀ {n : Nat}, n ≤ 100 → n ≤ sizeLine := fun h => Nat.le_of_lt (small1000 (by omega))
  have e1 : ∀ (c : Str), c.length = 1 → PyData.strOk c = true → (cutS z none (some 7) ++ c).length ≤ 100 ∧ PyData.strOk (cutS z none (some 7) ++ c) = true ∧ (cutS z none (some 7)).length + c.length ≤ sizeLine := fun c hc ho => by
    have := cutS_length z none (some 7)
    refine ⟨by rw [len_app]; omega, strOk_app (strOk_cut _ _ zo) ho, le100 (by omega)⟩
  refine ⟨_, (pss_cons (ps_set (i := 2) sc_law_bad_name.nd rfl (Or.inl rfl) (pe_call G__law_draw (hr.mono (by omega)) rfl T.m__law_draw T.F__law_draw.kp T.b__law_draw .nil pass0 (pa_cons (pv 0) (pa_cons pe_int pa_nil))))
    (pss_cons (ps_if (pt_cmpR op_lt (pv 2) pe_int (nomark _)) (pss_one (ps_ret (pe_ifExp (pt_cmpR op_eq (pv 2) pe_int (nomark _)) (pe_op op_add_str (pv 1) (pe_slice sl_str pe_str po_none (po_some (pe_op op_sub pe_int (pe_callB call_len rfl T.z_len PySem.boot_len (pa_cons (pv 1) pa_nil)))))) (pe_ix ix_list (pe_lst (pa_cons pe_str (pa_cons (pe_op op_add_str (pe_slice sl_str (pv 1) po_none (po_some pe_int)) pe_str) pa_nil))) (pe_op op_sub (pv 2) pe_int) (fun _ _ => rfl))))) pss_nil)
    (pss_one (ps_ret (pe_ix ix_list (pe_lst (pa_cons pe_non (pa_cons pe_bl (pa_cons pe_int (pa_cons (pe_tup (pa_cons (pv 1) pa_nil)) (pa_cons (pe_lst (pa_cons (pv 1) pa_nil)) (pa_cons (pe_op op_add_str (pe_slice sl_str (pv 1) po_none (po_some pe_int)) pe_str) pa_nil))))))) (pe_op op_sub (pv 2) pe_int) (fun _ _ => rfl)))))), ?_⟩
  refine ⟨_, rfl, st, sc, 9, rfl, by decide, by decide, hst, fun r H1 r0 r1 k1 o1 _ => ?_⟩
  refine ⟨_, rfl, _, _, rfl, rfl, _, rfl, ?_⟩
  by_cases c3 : r < 3
  · refine if_true_of (decide_eq_true c3) ?_
    refine ⟨_, rfl, rfl, _, rfl, ?_⟩
    by_cases c0 : r = 0
    · refine if_true_of (by rw [c0]; exact decide_eq_true rfl) ?_
      have hl := cutS_length ("abcdefghi" : Str) none (some (9 - ((z.length : Nat) : Int)))
      have h9 : ("abcdefghi" : Str).length = 9 := by decide +kernel
      refine ⟨_, rfl, _, rfl, .str z, _, rfl, ⟨zs, rfl⟩, _, _, rfl, rfl, _, rfl, _, rfl, by decide, _, _, rfl, rfl, le100 (by omega), ?_⟩
      exact q _ _ _ k1 o1 (.str _) (sm_of_str (by rw [len_app]; omega) (strOk_app zo (strOk_cut _ _ (by decide +kernel))))
    · refine if_false_of (decide_eq_false (fun h => c0 (by injection h))) ?_
      obtain ⟨a1, a2, a3⟩ := e1 "A" (by decide +kernel) (by decide +kernel)
      refine ⟨_, rfl, _, rfl, _, rfl, zs, _, _, rfl, rfl, a3, by show 2 ≤ sizeLine; decide, fun p hp => ?_⟩
      have c12 : r = 1 ∨ r = 2 := by omega
      have kp := k1.trans (Keep.new hp (o := .lst [V.str "", .str (cutS z none (some 7) ++ "A")]))
      have op := o1.new hp (o := .lst [V.str "", .str (cutS z none (some 7) ++ "A")])
      refine ⟨_, rfl, _, _, rfl, rfl, ?_⟩
      rcases c12 with rfl | rfl
      · exact ⟨p, _, 0, _, rfl, rfl, SqL.of upd_same, rfl, q _ _ _ kp op (.str _) (by decide +kernel)⟩
      · exact ⟨p, _, 1, _, rfl, rfl, SqL.of upd_same, rfl, q _ _ _ kp op (.str _) (sm_of_str a1 a2)⟩
  · refine if_false_of (decide_eq_false c3) ?_
    obtain ⟨a1, a2, a3⟩ := e1 "1" (by decide +kernel) (by decide +kernel)
    refine ⟨_, rfl, by show 1 ≤ sizeLine; decide, fun p1 hp1 => ⟨_, rfl, by show 1 ≤ sizeLine; decide, fun p2 hp2 => ?_⟩⟩
    refine ⟨_, rfl, _, rfl, _, rfl, zs, _, _, rfl, rfl, a3, by show 6 ≤ sizeLine; decide, fun p hp => ?_⟩
    have o2 := o1.new hp1 (o := .tup [V.str z])
    have n2 := ((hK.keep k1 o1).same (Same.new hp1 (.tup [V.str z]))).not hp2
    have o3 := o2.new hp2 (o := .lst [V.str z])
    have o4 := o3.new hp (o := .lst [V.non, .bl true, .int 7, .ref p1, .ref p2, .str (cutS z none (some 7) ++ "1")])
    have k4 := ((k1.trans (Keep.new hp1 (o := .tup [V.str z]))).trans (Keep.new hp2 (o := .lst [V.str z]))).trans (Keep.new hp (o := .lst [V.non, .bl true, .int 7, .ref p1, .ref p2, .str (cutS z none (some 7) ++ "1")]))
    have t1 : SqT K (upd (upd (upd H1 p1 (.tup [V.str z])) p2 (.lst [V.str z])) p (.lst [V.non, .bl true, .int 7, .ref p1, .ref p2, .str (cutS z none (some 7) ++ "1")])) p1 [.str z] := SqT.same ((Same.new hp2 _).trans (Same.new hp _)) (SqT.of upd_same)
    have t2 : SqL K (upd (upd (upd H1 p1 (.tup [V.str z])) p2 (.lst [V.str z])) p (.lst [V.non, .bl true, .int 7, .ref p1, .ref p2, .str (cutS z none (some 7) ++ "1")])) p2 [.str z] := SqL.same (Same.new hp _) (SqL.of upd_same)
    have t0 : SqL K (upd (upd (upd H1 p1 (.tup [V.str z])) p2 (.lst [V.str z])) p (.lst [V.non, .bl true, .int 7, .ref p1, .ref p2, .str (cutS z none (some 7) ++ "1")])) p [V.non, .bl true, .int 7, .ref p1, .ref p2, .str (cutS z none (some 7) ++ "1")] := SqL.of upd_same
    have c38 : r = 3 ∨ r = 4 ∨ r = 5 ∨ r = 6 ∨ r = 7 ∨ r = 8 := by omega
    have one : ∀ x ∈ [PyData.str z], smB 3 x = true := fun x hx => by rw [List.mem_singleton.mp hx]; exact sm_of_nm hz
    refine ⟨_, rfl, _, _, rfl, rfl, ?_⟩
    rcases c38 with rfl | rfl | rfl | rfl | rfl | rfl
    · exact ⟨p, _, 0, _, rfl, rfl, t0, rfl, q _ _ _ k4 o4 .non rfl⟩
    · exact ⟨p, _, 1, _, rfl, rfl, t0, rfl, q _ _ _ k4 o4 (.bl true) rfl⟩
    · exact ⟨p, _, 2, _, rfl, rfl, t0, rfl, q _ _ _ k4 o4 (.int 7) rfl⟩
    · exact ⟨p, _, 3, _, rfl, rfl, t0, rfl, q _ _ _ k4 o4 (.tup t1 (.cons (.str z) .nil)) (sm_of_tup (by show 1 ≤ 100; decide) one)⟩
    · exact ⟨p, _, 4, _, rfl, rfl, t0, rfl, q _ _ _ k4 o4 (.lst n2 t2 (.cons (.str z) .nil)) (sm_of_list (by show 1 ≤ 100; decide) one)⟩
    · exact ⟨p, _, 5, _, rfl, rfl, t0, rfl, q _ _ _ k4 o4 (.str _) (sm_of_str a1 a2)⟩
end
end K01
namespace K01
open PySem PySem.Spec PyProof.Rows L2 Td
def bareRows (eff : Bool) (rs : List Td.Row) : Prop := (∀ S : Sc, S.eff = eff → okRs S 1 rs) ∧ cnts rs ≤ 16 ∧ smB 3 (.tuple (rowsD rs)) = true
theorem bareRows.d {eff : Bool} {rs : List Td.Row} (h : bareRows eff rs) : bareD eff (.tuple (rowsD rs)) := ⟨rs, rfl, h.1, h.2.1⟩
theorem bare_nil (eff : Bool) : bareRows eff [] := ⟨fun S _ => by unfold okRs; trivial, Nat.zero_le _, rfl⟩
theorem bareD_nil (eff : Bool) : bareD eff (.tuple []) := (bare_nil eff).d
/-- all that is a pair has rows that are right, or none -/
def GoodPairs (eff : Bool) (d : PyData) : Prop := ∀ d0 ∈ tupOf d, (pairNm d0).isSome = true → BodyG eff d0
def spBadNames (K : PySem.W.Frag) : Sp := fun vs H Q _ => ∃ (N : Addr → Prop) (st sc wa : Addr) (zs : List Str) (m : Int), vs = [.ref st, .ref wa, .int m] ∧ Known N H ∧ StOk H st sc ∧ SqT K H wa (zs.map V.str) ∧ (∀ z ∈ zs, isNm z = true) ∧ 1 ≤ zs.length ∧ zs.length ≤ 4 ∧ m = 4 ∧
  ∀ (v : V) (d : PyData) H', Keep st H H' → StOk H' st sc → Dm K N H' v d → smB 5 d = true → Q v H'
def spBadPairs (K : PySem.W.Frag) : Sp := fun vs H Q _ => ∃ (N : Addr → Prop) (st sc sa : Addr) (pv : V) (ps : List (Str × List Td.Row)) (ss : List Str) (m : Int) (eff : Bool), vs = [.ref st, pv, .ref sa, .int m] ∧ Known N H ∧ StOk H st sc ∧ Tn K H pv (pairsD ps) ∧ SqT K H sa (ss.map V.str) ∧
  (∀ z ∈ ss, isNm z = true) ∧ 1 ≤ ss.length ∧ ss.length ≤ 4 ∧ ps.length ≤ 6 ∧ (ps.length : Int) ≤ m ∧ m ≤ 6 ∧ (∀ q ∈ ps, isNm q.1 = true ∧ bareRows eff q.2) ∧
  ∀ (v : V) (d : PyData) H', Keep st H H' → StOk H' st sc → Dm K N H' v d → smB 7 d = true → GoodPairs eff d → Q v H'
theorem sm_mid {k : Nat} {ds : List PyData} {x : PyData} {i : Nat} (h : ∀ y ∈ ds, smB k y = true) (hx : smB k x = true) : ∀ y ∈ (ds.take i ++ [x]) ++ ds.drop (i + 1), smB k y = true := fun y hy => by
  rcases List.mem_append.mp hy with hy | hy
  · rcases List.mem_append.mp hy with hy | hy
    · exact h y (List.mem_of_mem_take hy)
    · rw [List.mem_singleton.mp hy]; exact hx
  · exact h y (List.mem_of_mem_drop hy)
theorem mid_length {α : Type} {ds : List α} {x : α} {i : Nat} : ((ds.take i ++ [x]) ++ ds.drop (i + 1)).length ≤ ds.length + 1 := by
  rw [List.length_append, List.length_append, List.length_take, List.length_drop]
  show min i ds.length + 1 + (ds.length - (i + 1)) ≤ ds.length + 1
  omega
section
variable {P : Program} {w : World} {K : PySem.W.Frag} {mg : Str → Option Value} {base : Heap}
theorem ok_law_bad_names (T : Tops w K mg) (G__law_draw : FnOk P w K mg base CX0 1 T.a__law_draw T.d__law_draw ["_law_state_here", "_law_many_here"] spDraw)
    (G__law_bad_name : FnOk P w K mg base CX0 2 T.a__law_bad_name T.d__law_bad_name ["_law_state_here", "_law_good"] (spBadName K)) :
    FnOk P w K mg base CX0 3 T.a__law_bad_names T.d__law_bad_names ["_law_state_here", "_law_names_here", "_law_most"] (spBadNames K) := by
  refine T.F__law_bad_names.ok sc_law_bad_names (fun vs H Q E h => ?_) (fun cdv A outer s H vs Q E hr h => ?_)
  · obtain ⟨N, st, sc, wa, zs, m, rfl, _⟩ := h
    rfl
  obtain ⟨N, st, sc, wa, zs, m, rfl, hK, hst, hW, nm, l1, l4, rfl, q⟩ := h
  refine ⟨_, (pss_cons (ps_set (i := 3) sc_law_bad_names.nd rfl (Or.inl rfl) (pe_call G__law_draw (hr.mono (by omega)) rfl T.m__law_draw T.F__law_draw.kp T.b__law_draw .nil pass0 (pa_cons (pv 0) (pa_cons pe_int pa_nil))))
    (pss_cons (ps_set (i := 4) sc_law_bad_names.nd rfl (Or.inl rfl) (pe_call G__law_draw (hr.mono (by omega)) rfl T.m__law_draw T.F__law_draw.kp T.b__law_draw .nil pass0 (pa_cons (pv 0) (pa_cons (pe_callB call_len rfl T.z_len PySem.boot_len (pa_cons (pv 1) pa_nil)) pa_nil))))
    (pss_cons (ps_if (pt_cmpR op_eq (pv 3) pe_int (nomark _)) (pss_one (ps_ret (pe_callTy call_list_of rfl T.z_list (by decide +kernel) (pa_cons (pv 1) pa_nil)))) pss_nil)
    (pss_cons (ps_if (pt_cmpR op_eq (pv 3) pe_int (nomark _)) (pss_one (ps_ret (pe_op op_catA (pv 1) (pe_tup (pa_cons (pe_ix ix_tup (pv 1) (pv 4) (fun _ _ => rfl)) pa_nil))))) pss_nil)
    (pss_cons (ps_if (pt_cmpR op_eq (pv 3) pe_int (nomark _)) (pss_one (ps_ret (pe_op op_catA (pe_op op_catA (pe_slice sl_tupA (pv 1) po_none (po_some (pv 4))) (pe_tup (pa_cons (pe_call G__law_bad_name (hr.mono (by omega)) rfl T.m__law_bad_name T.F__law_bad_name.kp T.b__law_bad_name .nil pass0 (pa_cons (pv 0) (pa_cons (pe_ix ix_tup (pv 1) (pv 4) (fun _ _ => rfl)) pa_nil))) pa_nil))) (pe_slice sl_tupA (pv 1) (po_some (pe_op op_add (pv 4) pe_int)) po_none)))) pss_nil)
    (pss_cons (ps_if (pt_cmpR op_eq (pv 3) pe_int (nomark _)) (pss_one (ps_ret (pe_op op_catA (pv 1) (pe_callTy call_tuple_of rfl T.z_tuple (by decide +kernel) (pa_cons (pe_lc (own := [("_law_k", 5)]) (g := gName 5) (tt := tYes)  rfl sc_law_bad_names.nd (pi_range1 rfl T.z_range (pa_cons (pe_op op_sub (pe_op op_add (pv 2) pe_int) (pe_callB call_len rfl T.z_len PySem.boot_len (pa_cons (pv 1) pa_nil))) pa_nil)) (blkOk_by (own := [("_law_k", 5)]) (N := N_law_bad_names) (sc := defScope s_law_bad_names) (by decide +kernel)) (fun _ _ _ _ _ => (pg_name (i := 5) sc_law_bad_names.nd rfl (Or.inl rfl))) (fun _ _ _ _ _ => pts_nil) (fun _ _ _ _ _ => (pe_op op_add_str pe_str (pe_ix ix_str pe_str (pv 5) (fun _ _ => rfl))))) pa_nil))))) pss_nil)
    (pss_one (ps_ret (pe_ix ix_list (pe_lst (pa_cons (pe_slice sl_tupA (pv 1) po_none (po_some pe_int)) (pa_cons (pe_tup pa_nil) pa_nil))) (pe_op op_sub (pv 3) pe_int) (fun _ _ => rfl)))))))))), ?_⟩
  refine ⟨_, rfl, st, sc, 6, rfl, by decide, by decide, hst, fun r H1 r0 r1 k1 o1 _ => ?_⟩
  refine ⟨_, rfl, _, rfl, .ref wa, _, rfl, .inr ⟨_, SqT.tk (TK.of_keep k1 hst.chg) hW, rfl⟩, st, sc, _, rfl, by rw [List.length_map]; omega, by rw [List.length_map]; omega, o1, fun t H2 t0 t1 k2 o2 _ => ?_⟩
  rw [List.length_map] at t1
  have k12 := k1.trans k2
  have kn2 := hK.keep k12 o2
  have hW2 := SqT.tk (TK.of_keep k12 hst.chg) hW
  have ht : t.toNat < zs.length := by omega
  have et : t = (t.toNat : Nat) := (Int.toNat_of_nonneg t0).symm
  have out : ∀ {v d H3}, Same H2 H3 → Dm K N H3 v d → smB 5 d = true → Q v H3 := fun s3 hd hs => q _ _ _ (k12.trans (Same.keep s3 st)) (stGo o2 s3) hd hs
  have smz : ∀ x ∈ zs.map PyData.str, smB 4 x = true := sm_names nm
  refine ⟨_, rfl, rfl, _, rfl, ?_⟩
  by_cases e0 : r = 0
  · refine if_true_of (by rw [e0]; exact decide_eq_true rfl) ?_
    refine ⟨_, rfl, wa, _, rfl, .inr hW2, fun sl hsl => out (Same.new hsl _) (.lst (kn2.not hsl) (SqL.of upd_same) (DmAll.strs zs)) (sm_of_list (by rw [List.length_map]; omega) smz)⟩
  refine if_false_of (decide_eq_false (fun h => e0 (by injection h))) ?_
  refine ⟨_, rfl, rfl, _, rfl, ?_⟩
  by_cases e1 : r = 1
  · refine if_true_of (by rw [e1]; exact decide_eq_true rfl) ?_
    refine ⟨_, rfl, _, rfl, _, rfl, wa, _, t, _, rfl, rfl, hW2, at_word t0 ht, by show 1 ≤ sizeLine; decide, fun p1 hp1 => ?_⟩
    refine cat_all (SqT.same (Same.new hp1 _) hW2) (SqT.of upd_same) (Nat.le_of_lt (small1000 (by rw [List.length_map]; show zs.length + 1 ≤ 1000; omega))) (fun c H3 s3 hc => ?_)
    refine out ((Same.new hp1 _).trans s3) (.tup hc (DmAll.append (DmAll.strs zs) (.cons (.str zs[t.toNat]) .nil))) (sm_of_tup (by rw [List.length_append, List.length_map]; show zs.length + 1 ≤ 100; omega) fun x hx => ?_)
    rcases List.mem_append.mp hx with h | h
    · exact smz x h
    · rw [List.mem_singleton.mp h]; exact sm_of_nm (nm _ (List.getElem_mem ht))
  refine if_false_of (decide_eq_false (fun h => e1 (by injection h))) ?_
  refine ⟨_, rfl, rfl, _, rfl, ?_⟩
  by_cases e2 : r = 2
  · refine if_true_of (by rw [e2]; exact decide_eq_true rfl) ?_
    refine ⟨_, rfl, _, rfl, t, rfl, ?_⟩
    refine sl_all hW2 fun p1 H3 s3 h3 => ?_
    have o3 := stGo o2 s3
    refine ⟨_, rfl, _, rfl, _, rfl, wa, _, t, _, rfl, rfl, SqT.same s3 hW2, at_word t0 ht, N, st, sc, _, rfl, kn2.same s3, o3, nm _ (List.getElem_mem ht), fun v d H4 k4 o4 hv hs => ?_⟩
    have tk4 := TK.of_keep k4 o3.chg
    refine ⟨by show 1 ≤ sizeLine; decide, fun p2 hp2 => ?_⟩
    have s5 := Same.new hp2 (.tup [v])
    have h5 := SqT.same s5 (SqT.tk tk4 h3)
    rw [et, cut_to _ _ (by rw [List.length_map]; omega)] at h5
    refine cat_all h5 (SqT.of upd_same) (Nat.le_of_lt (small1000 (by rw [List.length_take, List.length_map]; show min _ zs.length + 1 ≤ 1000; omega))) (fun c H6 s6 hc => ?_)
    have s46 := s5.trans s6
    refine ⟨_, rfl, _, rfl, t, 1, rfl, rfl, t + 1, rfl, ?_⟩
    dsimp only [tNoPart]
    refine sl_all (SqT.same s46 (SqT.tk tk4 (SqT.same s3 hW2))) fun p3 H7 s7 h7 => ?_
    rw [show t + 1 = ((t.toNat + 1 : Nat) : Int) by omega, cut_from] at h7
    refine cat_all (SqT.same s7 hc) h7 (Nat.le_of_lt (small1000 (by rw [List.length_append, List.length_take, List.length_drop, List.length_map]; show min _ zs.length + 1 + (zs.length - (t.toNat + 1)) ≤ 1000; omega))) (fun c2 H8 s8 hc2 => ?_)
    have s48 := (s46.trans s7).trans s8
    refine q _ (.tuple (((zs.map PyData.str).take t.toNat ++ [d]) ++ (zs.map PyData.str).drop (t.toNat + 1))) _ (((k12.trans (Same.keep s3 st)).trans k4).trans (Same.keep s48 st)) (stGo o4 s48) (.tup hc2 ?_) (sm_of_tup ?_ (sm_mid smz hs))
    · exact DmAll.append (DmAll.append (DmAll.take _ (DmAll.strs zs)) (.cons (Dm.same s48 hv) .nil)) (DmAll.drop _ (DmAll.strs zs))
    · have := @mid_length _ (zs.map PyData.str) d t.toNat
      rw [List.length_map] at this
      omega
  refine if_false_of (decide_eq_false (fun h => e2 (by injection h))) ?_
  refine ⟨_, rfl, rfl, _, rfl, ?_⟩
  by_cases e3 : r = 3
  · refine if_true_of (by rw [e3]; exact decide_eq_true rfl) ?_
    have eg : ("abcdefg" : Str).cps.toList = [97, 98, 99, 100, 101, 102, 103] := by decide +kernel
    have nlen : ((zs.map V.str).length : Int) = zs.length := by rw [List.length_map]
    refine ⟨_, rfl, _, rfl, _, _, rfl, rfl, _, rfl, .ref wa, _, rfl, .inr ⟨_, hW2, rfl⟩, _, _, rfl, rfl, (4 + 1 - (((zs.map V.str).length : Nat) : Int)), rfl, by omega, by omega, fun D hD => lc_range (lo := 0) (n := (4 + 1 - (((zs.map V.str).length : Nat) : Int)).toNat)
      (fun i H' => ∃ ys : List Str, Same H2 H' ∧ H' D = some (.lst (ys.map V.str)) ∧ ys.length = i ∧ ∀ y ∈ ys, y.length ≤ 100 ∧ PyData.strOk y = true) ⟨[], Same.new hD _, upd_same, rfl, fun y h => by cases h⟩ ?_ ?_⟩
    · rintro i H' hi ⟨ys, hs, hb, yl, hy⟩
      rw [List.length_map] at hi
      have hi4 : i < 4 := by omega
      rw [show (0 : Int) + (i : Nat) = (i : Nat) by omega]
      have hc : ∃ c, atI ("abcdefg" : Str).cps.toList ((i : Nat) : Int) = some c ∧ c < 1000 := by
        rw [eg]
        have : i = 0 ∨ i = 1 ∨ i = 2 ∨ i = 3 := by omega
        rcases this with rfl | rfl | rfl | rfl
        · exact ⟨97, rfl, by decide⟩
        · exact ⟨98, rfl, by decide⟩
        · exact ⟨99, rfl, by decide⟩
        · exact ⟨100, rfl, by decide⟩
      obtain ⟨c, hc, hcl⟩ := hc
      refine ⟨rfl, tYes_of ?_⟩
      refine ⟨_, rfl, _, (i : Nat), c, rfl, rfl, by decide, hc, _, _, rfl, rfl, by show 1 + 1 ≤ _; decide, ?_⟩
      refine ⟨_, hb, small1000 (by rw [List.length_map]; omega), ys ++ [("x" : Str) ++ (⟨#[c]⟩ : Str)], own_same hs hD, by rw [upd_same, List.map_append]; rfl, by rw [List.length_append, yl]; rfl, fun y h => ?_⟩
      rcases List.mem_append.mp h with h | h
      · exact hy y h
      · rw [List.mem_singleton.mp h]
        exact ⟨by rw [len_app]; show 1 + 1 ≤ 100; decide, strOk_app (by decide +kernel) (by unfold PyData.strOk; simp; omega)⟩
    · rintro H' ⟨ys, hs, hb, yl, hy⟩
      rw [List.length_map] at yl
      refine ⟨D, _, rfl, .inl ⟨SqL.of hb, fun p1 hp1 => ?_⟩⟩
      have s3 := hs.trans (Same.new hp1 (.tup (ys.map V.str)))
      refine cat_all (SqT.same s3 hW2) (SqT.of upd_same) (Nat.le_of_lt (small1000 (by rw [List.length_map, List.length_map]; omega))) (fun c H4 s4 hc => ?_)
      refine out (s3.trans s4) (.tup hc (DmAll.append (DmAll.strs zs) (DmAll.strs ys))) (sm_of_tup (by rw [List.length_append, List.length_map, List.length_map]; omega) fun x hx => ?_)
      rcases List.mem_append.mp hx with h | h
      · exact smz x h
      · obtain ⟨y, hy2, rfl⟩ := List.mem_map.mp h
        exact sm_of_str (hy y hy2).1 (hy y hy2).2
  refine if_false_of (decide_eq_false (fun h => e3 (by injection h))) ?_
  refine ⟨_, rfl, 1, rfl, ?_⟩
  refine sl_all hW2 fun p1 H3 s3 h3 => ?_
  refine ⟨by show 0 ≤ sizeLine; decide, fun pe hpe => ⟨by show 2 ≤ sizeLine; decide, fun pl hpl => ?_⟩⟩
  have s4 := Same.new hpe (.tup [])
  have s5 := Same.new hpl (.lst [V.ref p1, .ref pe])
  have hl5 : SqL K (upd (upd H3 pe (.tup [])) pl (.lst [V.ref p1, .ref pe])) pl [V.ref p1, .ref pe] := SqL.of upd_same
  have c45 : r = 4 ∨ r = 5 := by omega
  refine ⟨_, rfl, _, _, rfl, rfl, ?_⟩
  rcases c45 with rfl | rfl
  · refine ⟨pl, _, 0, _, rfl, rfl, hl5, rfl, ?_⟩
    have h1 : cutV (zs.map V.str) none (some 1) = (zs.take 1).map V.str := by rw [show (1 : Int) = ((1 : Nat) : Int) from rfl, cut_to _ _ (by rw [List.length_map]; omega), List.map_take]
    rw [h1] at h3
    exact out ((s3.trans s4).trans s5) (.tup (SqT.same (s4.trans s5) h3) (DmAll.strs _)) (sm_of_tup (by rw [List.length_map, List.length_take]; omega) (sm_names fun z hz => nm z (List.mem_of_mem_take hz)))
  · refine ⟨pl, _, 1, _, rfl, rfl, hl5, rfl, ?_⟩
    exact out ((s3.trans s4).trans s5) (.tup (SqT.same s5 (SqT.of upd_same)) .nil) rfl
end
end K01
namespace K01
open PySem PySem.Spec PyProof.Rows L2 Td
/-- a pair that the generator puts in -/
def PairOk (eff : Bool) (d : PyData) : Prop := (pairNm d).isSome = true → BodyG eff d
theorem pairOk_pair {eff : Bool} {d1 : PyData} {r : PyData} (h : bareD eff r ∨ isTup r = false) : PairOk eff (.tuple [d1, r]) := fun hp => by
  cases d1 with
  | str z => exact ⟨z, r, rfl, h⟩
  | _ => cases hp
theorem pairNm_three (a b c : PyData) : pairNm (.tuple [a, b, c]) = none := by
  cases h : pairNm (.tuple [a, b, c]) with
  | none => rfl
  | some z => obtain ⟨r, e, _⟩ := pairNm_some h; cases e
theorem pairOk_no {eff : Bool} {d : PyData} (h : pairNm d = none) : PairOk eff d := fun hp => by rw [h] at hp; cases hp
theorem good_mid {eff : Bool} {ds : List PyData} {x : PyData} {i : Nat} (h : ∀ d ∈ ds, PairOk eff d) (hx : PairOk eff x) : GoodPairs eff (.tuple ((ds.take i ++ [x]) ++ ds.drop (i + 1))) := fun y hy => by
  have hy' : y ∈ (ds.take i ++ [x]) ++ ds.drop (i + 1) := hy
  rcases List.mem_append.mp hy' with hy | hy
  · rcases List.mem_append.mp hy with hy | hy
    · exact h y (List.mem_of_mem_take hy)
    · rw [List.mem_singleton.mp hy]; exact hx
  · exact h y (List.mem_of_mem_drop hy)
theorem letters7 {i : Nat} (h : i < 7) : ∃ c, atI ("abcdefg" : Str).cps.toList ((i : Nat) : Int) = some c ∧ c < 1000 := by
  have eg : ("abcdefg" : Str).cps.toList = [97, 98, 99, 100, 101, 102, 103] := by decide +kernel
  rw [eg]
  have : i = 0 ∨ i = 1 ∨ i = 2 ∨ i = 3 ∨ i = 4 ∨ i = 5 ∨ i = 6 := by omega
  rcases this with rfl | rfl | rfl | rfl | rfl | rfl | rfl
  · exact ⟨97, rfl, by decide⟩
  · exact ⟨98, rfl, by decide⟩
  · exact ⟨99, rfl, by decide⟩
  · exact ⟨100, rfl, by decide⟩
  · exact ⟨101, rfl, by decide⟩
  · exact ⟨102, rfl, by decide⟩
  · exact ⟨103, rfl, by decide⟩
theorem sm_two {k : Nat} {n r : PyData} (hn : smB k n = true) (hr : smB k r = true) : ∀ x ∈ [n, r], smB k x = true := fun x hx => by
  rcases List.mem_cons.mp hx with rfl | hx
  · exact hn
  · rw [List.mem_singleton.mp hx]; exact hr
theorem strOk_one {c : Nat} (h : c < 1000) : PyData.strOk (⟨#[c]⟩ : Str) = true := by unfold PyData.strOk; simp; omega
section
variable {P : Program} {w : World} {K : PySem.W.Frag} {mg : Str → Option Value} {base : Heap}
theorem ok_law_bad_pairs (T : Tops w K mg) (G__law_draw : FnOk P w K mg base CX0 1 T.a__law_draw T.d__law_draw ["_law_state_here", "_law_many_here"] spDraw)
    (G__law_bad_name : FnOk P w K mg base CX0 2 T.a__law_bad_name T.d__law_bad_name ["_law_state_here", "_law_good"] (spBadName K)) :
    FnOk P w K mg base CX0 3 T.a__law_bad_pairs T.d__law_bad_pairs ["_law_state_here", "_law_pairs", "_law_sources", "_law_most"] (spBadPairs K) := by
  refine T.F__law_bad_pairs.ok sc_law_bad_pairs (fun vs H Q E h => ?_) (fun cdv A outer s H vs Q E hr h => ?_)
  · obtain ⟨N, st, sc, sa, pv, ps, ss, m, eff, rfl, _⟩ := h
    rfl
  obtain ⟨N, st, sc, sa, pv, ps, ss, m, eff, rfl, hK, hst, hP, hS, snm, l1, l4, p6, pm, m6, pb, q⟩ := h
  obtain ⟨pa, xs, rfl, hA, hT⟩ := Tn.tup_inv hP
  have xl : xs.length = ps.length := by have := hT.length; rwa [List.length_map] at this
  have smD : ∀ x ∈ ps.map Td.pairD, smB 6 x = true := fun x hx => by
    obtain ⟨y, hy, rfl⟩ := List.mem_map.mp hx
    obtain ⟨h1, _, _, h2⟩ := pb y hy
    refine sm_le (j := 4) (sm_of_tup (by show 2 ≤ 100; decide) fun z hz => ?_) (by decide)
    rcases List.mem_cons.mp hz with rfl | hz
    · exact sm_of_nm h1
    · rw [List.mem_singleton.mp hz]; exact h2
  have gD : ∀ d ∈ ps.map Td.pairD, PairOk eff d := fun x hx => by
    obtain ⟨y, hy, rfl⟩ := List.mem_map.mp hx
    exact pairOk_pair (.inl (pb y hy).2.d)
  refine ⟨_, (pss_cons (ps_set (i := 4) sc_law_bad_pairs.nd rfl (Or.inl rfl) (pe_call G__law_draw (hr.mono (by omega)) rfl T.m__law_draw T.F__law_draw.kp T.b__law_draw .nil pass0 (pa_cons (pv 0) (pa_cons pe_int pa_nil))))
    (pss_cons (ps_if (pt_cmpR op_eq (pv 4) pe_int (nomark _)) (pss_one (ps_ret (pe_callTy call_list_of rfl T.z_list (by decide +kernel) (pa_cons (pv 1) pa_nil)))) pss_nil)
    (pss_cons (ps_if (pt_cmpR op_eq (pv 4) pe_int (nomark _)) (pss_one (ps_ret pe_non)) pss_nil)
    (pss_cons (ps_if (pt_cmpR op_eq (pv 4) pe_int (nomark _)) (pss_one (ps_ret (pe_op op_catA (pv 1) (pe_callTy call_tuple_of rfl T.z_tuple (by decide +kernel) (pa_cons (pe_lc (own := [("_law_k", 9)]) (g := gName 9) (tt := tYes)  rfl sc_law_bad_pairs.nd (pi_range1 rfl T.z_range (pa_cons (pe_op op_sub (pe_op op_add (pv 3) pe_int) (pe_callB call_len rfl T.z_len PySem.boot_len (pa_cons (pv 1) pa_nil))) pa_nil)) (blkOk_by (own := [("_law_k", 9)]) (N := N_law_bad_pairs) (sc := defScope s_law_bad_pairs) (by decide +kernel)) (fun _ _ _ _ _ => (pg_name (i := 9) sc_law_bad_pairs.nd rfl (Or.inl rfl))) (fun _ _ _ _ _ => pts_nil) (fun _ _ _ _ _ => (pe_tup (pa_cons (pe_op op_add_str pe_str (pe_ix ix_str pe_str (pv 9) (fun _ _ => rfl))) (pa_cons (pe_tup pa_nil) pa_nil))))) pa_nil))))) pss_nil)
    (pss_cons (ps_if (pt_cmpR op_eq (pe_callB call_len rfl T.z_len PySem.boot_len (pa_cons (pv 1) pa_nil)) pe_int (nomark _)) (pss_one (ps_ret (pe_ix ix_list (pe_lst (pa_cons (pe_tup pa_nil) (pa_cons (pe_tup (pa_cons (pe_tup (pa_cons (pe_ix ix_tup (pv 2) pe_int (fun _ _ => rfl)) (pa_cons (pe_tup pa_nil) pa_nil))) pa_nil)) (pa_cons (pe_tup (pa_cons pe_bl pa_nil)) (pa_cons (pe_tup (pa_cons (pe_tup (pa_cons pe_str pa_nil)) pa_nil)) (pa_cons (pe_tup (pa_cons (pe_tup (pa_cons pe_str (pa_cons (pe_lst pa_nil) pa_nil))) pa_nil)) pa_nil)))))) (pe_op op_sub (pv 4) pe_int) (fun _ _ => rfl)))) pss_nil)
    (pss_cons (ps_set (i := 5) sc_law_bad_pairs.nd rfl (Or.inl rfl) (pe_call G__law_draw (hr.mono (by omega)) rfl T.m__law_draw T.F__law_draw.kp T.b__law_draw .nil pass0 (pa_cons (pv 0) (pa_cons (pe_callB call_len rfl T.z_len PySem.boot_len (pa_cons (pv 1) pa_nil)) pa_nil))))
    (pss_cons (ps_asg (pe_ix ix_tup (pv 1) (pv 5) (fun _ _ => rfl)) (pg_tup rfl (pgs_cons (pg_name (i := 6) sc_law_bad_pairs.nd rfl (Or.inl rfl)) (pgs_cons (pg_name (i := 7) sc_law_bad_pairs.nd rfl (Or.inl rfl)) pgs_nil))))
    (pss_cons (ps_set (i := 8) sc_law_bad_pairs.nd rfl (Or.inl rfl) (pe_lst (pa_cons (pv 6) (pa_cons (pv 7) pa_nil))))
    (C8.pss_cut (ps_if (pt_cmpR op_eq (pv 4) pe_int (nomark _)) (pss_one (ps_set (i := 8) sc_law_bad_pairs.nd rfl (Or.inl rfl) (pe_tup (pa_cons (pv 6) (pa_cons (pv 7) (pa_cons (pv 7) pa_nil)))))) pss_nil)
    (C8.pss_cut (ps_if (pt_cmpR op_eq (pv 4) pe_int (nomark _)) (pss_one (ps_set (i := 8) sc_law_bad_pairs.nd rfl (Or.inl rfl) (pe_tup (pa_cons (pe_call G__law_bad_name (hr.mono (by omega)) rfl T.m__law_bad_name T.F__law_bad_name.kp T.b__law_bad_name .nil pass0 (pa_cons (pv 0) (pa_cons (pv 6) pa_nil))) (pa_cons (pv 7) pa_nil))))) pss_nil)
    (C8.pss_cut (ps_if (pt_cmpR op_eq (pv 4) pe_int (nomark _)) (pss_one (ps_set (i := 8) sc_law_bad_pairs.nd rfl (Or.inl rfl) (pe_tup (pa_cons (pe_ix ix_tup (pv 2) (pe_call G__law_draw (hr.mono (by omega)) rfl T.m__law_draw T.F__law_draw.kp T.b__law_draw .nil pass0 (pa_cons (pv 0) (pa_cons (pe_callB call_len rfl T.z_len PySem.boot_len (pa_cons (pv 2) pa_nil)) pa_nil))) (fun _ _ => rfl)) (pa_cons (pv 7) pa_nil))))) pss_nil)
    (C8.pss_cut (ps_if (pt_cmpR op_eq (pv 4) pe_int (nomark _)) (pss_one (ps_set (i := 8) sc_law_bad_pairs.nd rfl (Or.inl rfl) (pe_tup (pa_cons (pv 6) (pa_cons (pe_ix ix_list (pe_lst (pa_cons pe_non (pa_cons (pe_callTy call_list_of rfl T.z_list (by decide +kernel) (pa_cons (pv 7) pa_nil)) (pa_cons pe_bl pa_nil)))) (pe_call G__law_draw (hr.mono (by omega)) rfl T.m__law_draw T.F__law_draw.kp T.b__law_draw .nil pass0 (pa_cons (pv 0) (pa_cons pe_int pa_nil))) (fun _ _ => rfl)) pa_nil))))) pss_nil)
    (pss_one (ps_ret (pe_op op_catA (pe_op op_catA (pe_slice sl_tupA (pv 1) po_none (po_some (pv 5))) (pe_tup (pa_cons (pv 8) pa_nil))) (pe_slice sl_tupA (pv 1) (po_some (pe_op op_add (pv 5) pe_int)) po_none)))))))))))))))), ?_⟩
  refine ⟨_, rfl, st, sc, 8, rfl, by decide, by decide, hst, fun r H1 r0 r1 k1 o1 _ => ?_⟩
  have tk1 := TK.of_keep k1 hst.chg
  have kn1 := hK.keep k1 o1
  have hA1 := SqT.tk tk1 hA
  have hT1 : ∀ {H'}, Same H1 H' → DmAll K N H' xs (ps.map Td.pairD) := fun s => TnAll.dm (TnAll.keep (tk1.trans (TK.of_same s)) hT)
  have out : ∀ {v d H3}, Same H1 H3 → Dm K N H3 v d → smB 7 d = true → GoodPairs eff d → Q v H3 := fun s3 hd hs hg => q _ _ _ (k1.trans (Same.keep s3 st)) (stGo o1 s3) hd hs hg
  have dl : (ps.map Td.pairD).length = ps.length := List.length_map _
  refine ⟨_, rfl, rfl, _, rfl, ?_⟩
  by_cases e0 : r = 0
  · refine if_true_of (by rw [e0]; exact decide_eq_true rfl) ?_
    refine ⟨_, rfl, pa, _, rfl, .inr hA1, fun sl hsl => out (Same.new hsl _) (.lst (kn1.not hsl) (SqL.of upd_same) (hT1 (Same.new hsl _))) (sm_of_list (by omega) smD) ?_⟩
    exact fun d0 hd => by cases hd
  refine if_false_of (decide_eq_false (fun h => e0 (by injection h))) ?_
  refine ⟨_, rfl, rfl, _, rfl, ?_⟩
  by_cases e1 : r = 1
  · refine if_true_of (by rw [e1]; exact decide_eq_true rfl) ?_
    exact out (Same.refl _) .non rfl fun d0 hd => by cases hd
  refine if_false_of (decide_eq_false (fun h => e1 (by injection h))) ?_
  refine ⟨_, rfl, rfl, _, rfl, ?_⟩
  by_cases e2 : r = 2
  · refine if_true_of (by rw [e2]; exact decide_eq_true rfl) ?_
    refine ⟨_, rfl, _, rfl, _, _, rfl, rfl, _, rfl, .ref pa, _, rfl, .inr ⟨_, hA1, rfl⟩, _, _, rfl, rfl, (m + 1 - ((xs.length : Nat) : Int)), rfl, by omega, by omega, fun D hD => lc_range (lo := 0) (n := (m + 1 - ((xs.length : Nat) : Int)).toNat)
      (fun i H' => ∃ (ys : List V) (ds : List PyData), Same H1 H' ∧ H' D = some (.lst ys) ∧ TnAll K H' ys ds ∧ ds.length = i ∧ ∀ d ∈ ds, smB 6 d = true ∧ PairOk eff d) ⟨[], [], Same.new hD _, upd_same, .nil, rfl, fun y h => by cases h⟩ ?_ ?_⟩
    · rintro i H' hi ⟨ys, ds, hs, hb, hY, yl, hy⟩
      rw [show (0 : Int) + (i : Nat) = (i : Nat) by omega]
      obtain ⟨c, hc, hcl⟩ := letters7 (i := i) (by omega)
      have ylen := hY.length
      refine ⟨rfl, tYes_of ?_⟩
      refine ⟨_, rfl, _, (i : Nat), c, rfl, rfl, by decide, hc, _, _, rfl, rfl, by show 1 + 1 ≤ _; decide, by show 0 ≤ sizeLine; decide, fun pe hpe => ⟨by show 2 ≤ sizeLine; decide, fun pt hpt => ?_⟩⟩
      have s1 := Same.new hpe (.tup [])
      have s2 := Same.new hpt (.tup [V.str (("y" : Str) ++ (⟨#[c]⟩ : Str)), .ref pe])
      have hb2 := s2 _ _ (s1 _ _ hb)
      refine ⟨ys, hb2, small1000 (by omega), ys ++ [.ref pt], ds ++ [.tuple [.str (("y" : Str) ++ (⟨#[c]⟩ : Str)), .tuple []]], own_same (hs.trans (s1.trans s2)) hD, upd_same, ?_, by rw [List.length_append, yl]; rfl, fun d hd => ?_⟩
      · have tkD : TK (upd (upd H' pe (.tup [])) pt (.tup [V.str (("y" : Str) ++ (⟨#[c]⟩ : Str)), .ref pe])) (upd (upd (upd H' pe (.tup [])) pt (.tup [V.str (("y" : Str) ++ (⟨#[c]⟩ : Str)), .ref pe])) D (.lst (ys ++ [.ref pt]))) := TK.upd (by rw [hb2]; trivial)
        refine TnAll.append (TnAll.keep ((TK.of_same (s1.trans s2)).trans tkD) hY) (TnAll.one (Tn.keep tkD (.tup (SqT.of upd_same) (.cons (.str _) (.cons (.tup (SqT.same s2 (SqT.of upd_same)) .nil) .nil)))))
      · rcases List.mem_append.mp hd with h | h
        · exact hy d h
        · rw [List.mem_singleton.mp h]
          refine ⟨sm_of_tup (by show 2 ≤ 100; decide) fun x hx => ?_, pairOk_pair (.inl (bareD_nil eff))⟩
          rcases List.mem_cons.mp hx with rfl | hx
          · exact sm_of_str (by rw [len_app]; show 1 + 1 ≤ 100; decide) (strOk_app (by decide +kernel) (strOk_one hcl))
          · rw [List.mem_singleton.mp hx]; rfl
    · rintro H' ⟨ys, ds, hs, hb, hY, yl, hy⟩
      have ylen := hY.length
      refine ⟨D, _, rfl, .inl ⟨SqL.of hb, fun p1 hp1 => ?_⟩⟩
      have s3 := Same.new hp1 (.tup ys)
      refine cat_all (SqT.same (hs.trans s3) hA1) (SqT.of upd_same) (Nat.le_of_lt (small1000 (by omega))) (fun c H4 s4 hc => ?_)
      have s14 := (hs.trans s3).trans s4
      refine out s14 (.tup hc (DmAll.append (hT1 s14) (TnAll.dm (TnAll.keep (TK.of_same (s3.trans s4)) hY)))) (sm_of_tup (by rw [List.length_append]; omega) fun x hx => ?_) ?_
      · rcases List.mem_append.mp hx with h | h
        · exact smD x h
        · exact (hy x h).1
      · intro x hx
        rcases List.mem_append.mp hx with h | h
        · exact gD x h
        · exact (hy x h).2
  refine if_false_of (decide_eq_false (fun h => e2 (by injection h))) ?_
  refine ⟨_, rfl, .ref pa, _, rfl, .inr ⟨_, hA1, rfl⟩, rfl, _, rfl, ?_⟩
  by_cases ez : ps.length = 0
  · refine if_true_of (by rw [xl, ez]; exact decide_eq_true rfl) ?_
    have s0 : atI (ss.map V.str) 0 = some (.str ss[0]) := at_word (r := 0) (by decide) (by show 0 < ss.length; omega)
    have n0 : isNm ss[0] = true := snm _ (List.getElem_mem _)
    refine ⟨by show 0 ≤ sizeLine; decide, fun pe hpe => ?_⟩
    have t1 := Same.new hpe (.tup [])
    have he : SqT K (upd H1 pe (.tup [])) pe [] := SqT.of upd_same
    generalize upd H1 pe (.tup []) = H2 at t1 he
    refine ⟨_, rfl, sa, _, 0, _, rfl, rfl, SqT.tk (tk1.trans (TK.of_same t1)) hS, s0, by show 0 ≤ sizeLine; decide, fun p1 hp1 => ⟨by show 2 ≤ sizeLine; decide, fun p2 hp2 => ⟨by show 1 ≤ sizeLine; decide, fun p3 hp3 => ?_⟩⟩⟩
    have u1 := Same.new hp1 (.tup [])
    have u2 := Same.new hp2 (.tup [V.str ss[0], .ref p1])
    have u3 := Same.new hp3 (.tup [V.ref p2])
    have t3 := ((t1.trans u1).trans u2).trans u3
    have h3 : Tn K _ (.ref p3) (.tuple [.tuple [.str ss[0], .tuple []]]) := .tup (SqT.of upd_same) (.cons (Tn.same u3 (.tup (SqT.of upd_same) (.cons (.str _) (.cons (Tn.same u2 (.tup (SqT.of upd_same) .nil)) .nil)))) .nil)
    have he3 := SqT.same ((u1.trans u2).trans u3) he
    generalize upd (upd (upd H2 p1 (.tup [])) p2 (.tup [V.str ss[0], .ref p1])) p3 (.tup [V.ref p2]) = H3 at t3 h3 he3
    refine ⟨by show 1 ≤ sizeLine; decide, fun p4 hp4 => ?_⟩
    have t4 := Same.new hp4 (.tup [V.bl true])
    have h4 : Tn K (upd H3 p4 (.tup [V.bl true])) (.ref p4) (.tuple [.bool true]) := .tup (SqT.of upd_same) (.cons (.bl true) .nil)
    generalize upd H3 p4 (.tup [V.bl true]) = H4 at t4 h4
    refine ⟨by show 1 ≤ sizeLine; decide, fun p5 hp5 => ⟨by show 1 ≤ sizeLine; decide, fun p6 hp6 => ?_⟩⟩
    have t5 := (Same.new hp5 (.tup [V.str "z"])).trans (Same.new hp6 (.tup [V.ref p5]))
    have h6 : Tn K (upd (upd H4 p5 (.tup [V.str "z"])) p6 (.tup [V.ref p5])) (.ref p6) (.tuple [.tuple [.str "z"]]) := .tup (SqT.of upd_same) (.cons (Tn.same (Same.new hp6 _) (.tup (SqT.of upd_same) (.cons (.str _) .nil))) .nil)
    generalize upd (upd H4 p5 (.tup [V.str "z"])) p6 (.tup [V.ref p5]) = H6 at t5 h6
    refine ⟨by show 0 ≤ sizeLine; decide, fun l7 hl7 => ?_⟩
    have n7 := (kn1.same ((t3.trans t4).trans t5)).not hl7
    refine ⟨by show 2 ≤ sizeLine; decide, fun p8 hp8 => ⟨by show 1 ≤ sizeLine; decide, fun p9 hp9 => ?_⟩⟩
    have v7 := Same.new hl7 (.lst [])
    have v8 := Same.new hp8 (.tup [V.str "zz", .ref l7])
    have v9 := Same.new hp9 (.tup [V.ref p8])
    have t9 := (v7.trans v8).trans v9
    have h9 : Dm K N (upd (upd (upd H6 l7 (.lst [])) p8 (.tup [V.str "zz", .ref l7])) p9 (.tup [V.ref p8])) (.ref p9) (.tuple [.tuple [.str "zz", .list []]]) :=
      .tup (SqT.of upd_same) (.cons (.tup (SqT.same v9 (SqT.of upd_same)) (.cons (.str _) (.cons (.lst n7 (SqL.same (v8.trans v9) (SqL.of upd_same)) .nil) .nil))) .nil)
    generalize upd (upd (upd H6 l7 (.lst [])) p8 (.tup [V.str "zz", .ref l7])) p9 (.tup [V.ref p8]) = H9 at t9 h9
    refine ⟨by show 5 ≤ sizeLine; decide, fun pl hpl => ?_⟩
    have t10 := Same.new hpl (.lst [V.ref pe, .ref p3, .ref p4, .ref p6, .ref p9])
    have hl : SqL K (upd H9 pl (.lst [V.ref pe, .ref p3, .ref p4, .ref p6, .ref p9])) pl [V.ref pe, .ref p3, .ref p4, .ref p6, .ref p9] := SqL.of upd_same
    have t49 := t9.trans t10
    have t39 := (t4.trans t5).trans t49
    have all := t3.trans t39
    have c37 : r = 3 ∨ r = 4 ∨ r = 5 ∨ r = 6 ∨ r = 7 := by omega
    refine ⟨_, rfl, _, _, rfl, rfl, ?_⟩
    have nm1 : ∀ x ∈ [PyData.str ss[0], .tuple []], smB 5 x = true := fun x hx => by
      rcases List.mem_cons.mp hx with rfl | hx
      · exact sm_of_nm n0
      · rw [List.mem_singleton.mp hx]; rfl
    rcases c37 with rfl | rfl | rfl | rfl | rfl
    · exact ⟨pl, _, 0, _, rfl, rfl, hl, rfl, out all (.tup (SqT.same t39 he3) .nil) rfl fun d hd => by cases hd⟩
    · refine ⟨pl, _, 1, _, rfl, rfl, hl, rfl, out all (Tn.dm (Tn.same t39 h3)) (sm_of_tup (by show 1 ≤ 100; decide) fun x hx => ?_) fun d hd => ?_⟩
      · rw [List.mem_singleton.mp hx]
        exact sm_of_tup (by show 2 ≤ 100; decide) nm1
      · have hd' : d ∈ [PyData.tuple [.str ss[0], .tuple []]] := hd
        rw [List.mem_singleton.mp hd']
        exact pairOk_pair (.inl (bareD_nil eff))
    · refine ⟨pl, _, 2, _, rfl, rfl, hl, rfl, out all (Tn.dm (Tn.same (t5.trans t49) h4)) rfl fun d hd => ?_⟩
      have hd' : d ∈ [PyData.bool true] := hd
      rw [List.mem_singleton.mp hd']
      exact pairOk_no rfl
    · refine ⟨pl, _, 3, _, rfl, rfl, hl, rfl, out all (Tn.dm (Tn.same t49 h6)) (by decide +kernel) fun d hd => ?_⟩
      have hd' : d ∈ [PyData.tuple [.str "z"]] := hd
      rw [List.mem_singleton.mp hd']
      exact pairOk_no rfl
    · refine ⟨pl, _, 4, _, rfl, rfl, hl, rfl, out all (Dm.same t10 h9) (by decide +kernel) fun d hd => ?_⟩
      have hd' : d ∈ [PyData.tuple [.str "zz", .list []]] := hd
      rw [List.mem_singleton.mp hd']
      exact pairOk_pair (.inr rfl)
  refine if_false_of (by rw [xl]; exact decide_eq_false (fun h => ez (by injection h with h; omega))) ?_
  refine ⟨_, rfl, _, rfl, .ref pa, _, rfl, .inr ⟨_, hA1, rfl⟩, st, sc, _, rfl, by omega, by omega, o1, fun t H2 t0 t1 k2 o2 _ => ?_⟩
  have ht : t.toNat < ps.length := by omega
  have et : t = (t.toNat : Nat) := (Int.toNat_of_nonneg t0).symm
  have k12 := k1.trans k2
  have kn2 := hK.keep k12 o2
  have tk2 := TK.of_keep k12 hst.chg
  have hA2 := SqT.tk tk2 hA
  have hx2 : xs[t.toNat]? = some xs[t.toNat] := List.getElem?_eq_getElem (by omega)
  have hT2 := TnAll.keep tk2 hT
  obtain ⟨dd, hdd, hxd⟩ := TnAll.get hT2 hx2
  have hqq : ps[t.toNat]? = some ps[t.toNat] := List.getElem?_eq_getElem ht
  rw [List.getElem?_map, hqq] at hdd
  cases hdd
  obtain ⟨qn, qb⟩ := pb _ (List.getElem_mem ht)
  generalize ps[t.toNat] = qq at hxd qn qb
  obtain ⟨b, ys2, eb, hB, hBT⟩ := Tn.tup_inv hxd
  obtain ⟨vr, rfl, hVr⟩ : ∃ vr, ys2 = [.str qq.1, vr] ∧ Tn K H2 vr (.tuple (rowsD qq.2)) := by
    cases hBT with
    | cons a1 a2 =>
      cases a1
      cases a2 with
      | cons a3 a4 => cases a4; exact ⟨_, rfl, a3⟩
  have hat : atI xs t = some (.ref b) := by rw [et]; exact atI_nat (by rw [hx2, eb])
  refine ⟨_, rfl, _, rfl, pa, _, t, _, rfl, rfl, hA2, hat, b, _, rfl, hB, rfl, _, _, rfl, _, _, rfl, rfl, ?_⟩
  refine ⟨_, rfl, _, rfl, by show 2 ≤ sizeLine; decide, fun pp hpp => ?_⟩
  have s3 := Same.new hpp (.lst [V.str qq.1, vr])
  have npp := kn2.not hpp
  have rowsSm : smB 3 (.tuple (rowsD qq.2)) = true := qb.2.2
  have dm3 : Dm K N (upd H2 pp (.lst [V.str qq.1, vr])) (.ref pp) (.list [.str qq.1, .tuple (rowsD qq.2)]) := .lst npp (SqL.of upd_same) (.cons (.str _) (.cons (Tn.dm (Tn.same s3 hVr)) .nil))
  have smr : smB 5 (.tuple (rowsD qq.2)) = true := sm_le rowsSm (by decide)
  have smn : smB 5 (.str qq.1) = true := sm_of_nm qn
  have sm3 : smB 6 (.list [.str qq.1, .tuple (rowsD qq.2)]) = true := sm_of_list (by show 2 ≤ 100; decide) (sm_two smn smr)
  have o3 := stGo o2 s3
  try dsimp only
  generalize upd H2 pp (.lst [V.str qq.1, vr]) = H3 at s3 dm3 o3
  have k23 : Keep st H2 H3 := Same.keep s3 st
  refine ⟨fun σ' H' => ∃ (vp : V) (d : PyData), σ' = [some (.ref st), some (.ref pa), some (.ref sa), some (.int m), some (.int r), some (.int t), some (.str qq.1), some vr, some vp, none] ∧ Keep st H2 H' ∧ StOk H' st sc ∧ Dm K N H' vp d ∧ smB 6 d = true ∧ PairOk eff d, ?_, ?_⟩
  · refine ⟨_, rfl, rfl, _, rfl, ?_⟩
    by_cases e4 : r = 4
    · refine if_true_of (by rw [e4]; exact decide_eq_true rfl) ?_
      refine ⟨_, rfl, _, rfl, _, rfl, by show 3 ≤ sizeLine; decide, fun p1 hp1 => ?_⟩
      have s4 := Same.new hp1 (.tup [V.str qq.1, vr, vr])
      refine ⟨_, _, rfl, k23.trans (Same.keep s4 st), stGo o3 s4, .tup (SqT.of upd_same) (.cons (.str _) (.cons (Tn.dm (Tn.same (s3.trans s4) hVr)) (.cons (Tn.dm (Tn.same (s3.trans s4) hVr)) .nil))), sm_of_tup (by show 3 ≤ 100; decide) (fun x hx => ?_), pairOk_no (pairNm_three _ _ _)⟩
      rcases List.mem_cons.mp hx with rfl | hx
      · exact smn
      · rcases List.mem_cons.mp hx with rfl | hx
        · exact smr
        · rw [List.mem_singleton.mp hx]; exact smr
    · exact if_false_of (decide_eq_false (fun h => e4 (by injection h))) ⟨_, _, rfl, k23, o3, dm3, sm3, pairOk_no rfl⟩
  rintro σ H4 ⟨vp, d, rfl, k4, o4, hd, hs, hg⟩
  refine ⟨fun σ' H' => ∃ (vp : V) (d : PyData), σ' = [some (.ref st), some (.ref pa), some (.ref sa), some (.int m), some (.int r), some (.int t), some (.str qq.1), some vr, some vp, none] ∧ Keep st H2 H' ∧ StOk H' st sc ∧ Dm K N H' vp d ∧ smB 6 d = true ∧ PairOk eff d, ?_, ?_⟩
  · refine ⟨_, rfl, rfl, _, rfl, ?_⟩
    by_cases e5 : r = 5
    · refine if_true_of (by rw [e5]; exact decide_eq_true rfl) ?_
      refine ⟨_, rfl, _, rfl, N, st, sc, qq.1, rfl, kn2.keep k4 o4, o4, qn, fun v5 d5 H5 k5 o5 hd5 hs5 => ?_⟩
      have k25 := k4.trans k5
      have hV5 := Tn.keep (TK.of_keep k25 o2.chg) hVr
      refine ⟨_, rfl, by show 2 ≤ sizeLine; decide, fun p1 hp1 => ?_⟩
      have s6 := Same.new hp1 (.tup [v5, vr])
      exact ⟨_, _, rfl, k25.trans (Same.keep s6 st), stGo o5 s6, .tup (SqT.of upd_same) (.cons (Dm.same s6 hd5) (.cons (Tn.dm (Tn.same s6 hV5)) .nil)), sm_of_tup (by show 2 ≤ 100; decide) (sm_two (sm_le hs5 (by decide)) smr), pairOk_pair (.inl qb.d)⟩
    · exact if_false_of (decide_eq_false (fun h => e5 (by injection h))) ⟨_, _, rfl, k4, o4, hd, hs, hg⟩
  clear hd hs hg k4 o4 vp d H4
  rintro σ H4 ⟨vp, d, rfl, k4, o4, hd, hs, hg⟩
  refine ⟨fun σ' H' => ∃ (vp : V) (d : PyData), σ' = [some (.ref st), some (.ref pa), some (.ref sa), some (.int m), some (.int r), some (.int t), some (.str qq.1), some vr, some vp, none] ∧ Keep st H2 H' ∧ StOk H' st sc ∧ Dm K N H' vp d ∧ smB 6 d = true ∧ PairOk eff d, ?_, ?_⟩
  · refine ⟨_, rfl, rfl, _, rfl, ?_⟩
    by_cases e6 : r = 6
    · refine if_true_of (by rw [e6]; exact decide_eq_true rfl) ?_
      refine ⟨_, rfl, _, rfl, _, rfl, .ref sa, _, rfl, .inr ⟨_, SqT.tk (TK.of_keep (k12.trans k4) hst.chg) hS, rfl⟩, st, sc, _, rfl, by rw [List.length_map]; omega, by rw [List.length_map]; omega, o4, fun u H5 u0 u1 k5 o5 _ => ?_⟩
      rw [List.length_map] at u1
      have hu : u.toNat < ss.length := by omega
      have k25 := k4.trans k5
      have hV5 := Tn.keep (TK.of_keep k25 o2.chg) hVr
      refine ⟨sa, _, u, _, rfl, rfl, SqT.tk (TK.of_keep (k12.trans k25) hst.chg) hS, at_word u0 hu, ?_⟩
      refine ⟨_, rfl, by show 2 ≤ sizeLine; decide, fun p1 hp1 => ?_⟩
      have s6 := Same.new hp1 (.tup [V.str ss[u.toNat], vr])
      exact ⟨_, _, rfl, k25.trans (Same.keep s6 st), stGo o5 s6, .tup (SqT.of upd_same) (.cons (.str _) (.cons (Tn.dm (Tn.same s6 hV5)) .nil)), sm_of_tup (by show 2 ≤ 100; decide) (sm_two (sm_of_nm (snm _ (List.getElem_mem hu))) smr), pairOk_pair (.inl qb.d)⟩
    · exact if_false_of (decide_eq_false (fun h => e6 (by injection h))) ⟨_, _, rfl, k4, o4, hd, hs, hg⟩
  clear hd hs hg k4 o4 vp d H4
  rintro σ H4 ⟨vp, d, rfl, k4, o4, hd, hs, hg⟩
  refine ⟨fun σ' H' => ∃ (vp : V) (d : PyData), σ' = [some (.ref st), some (.ref pa), some (.ref sa), some (.int m), some (.int r), some (.int t), some (.str qq.1), some vr, some vp, none] ∧ Keep st H2 H' ∧ StOk H' st sc ∧ Dm K N H' vp d ∧ smB 6 d = true ∧ PairOk eff d, ?_, ?_⟩
  · refine ⟨_, rfl, rfl, _, rfl, ?_⟩
    by_cases e7 : r = 7
    · refine if_true_of (by rw [e7]; exact decide_eq_true rfl) ?_
      obtain ⟨ar, us, rfl, hU, hUT⟩ := Tn.tup_inv (Tn.keep (TK.of_keep k4 o2.chg) hVr)
      refine ⟨_, rfl, _, rfl, ar, _, rfl, .inr hU, fun sl hsl => ⟨by show 3 ≤ sizeLine; decide, fun pl hpl => ?_⟩⟩
      have nsl : sl ≠ st := (o4.ne hsl).1
      have nslN := (kn2.keep k4 o4).not hsl
      have s5 := Same.new hsl (.lst us)
      have npl : pl ≠ st := ((stGo o4 s5).ne hpl).1
      have s6 := s5.trans (Same.new hpl (.lst [V.non, .ref sl, .bl true]))
      have el : upd (upd H4 sl (.lst us)) pl (.lst [V.non, .ref sl, .bl true]) pl = some (.lst [V.non, .ref sl, .bl true]) := upd_same
      have eu : upd (upd H4 sl (.lst us)) pl (.lst [V.non, .ref sl, .bl true]) sl = some (.lst us) := Same.new hpl _ _ _ upd_same
      try dsimp only
      generalize upd (upd H4 sl (.lst us)) pl (.lst [V.non, .ref sl, .bl true]) = H5 at s6 el eu
      have o5 := stGo o4 s6
      refine ⟨_, rfl, st, sc, 3, rfl, by decide, by decide, o5, fun u H6 u0 u1 k6 o6 _ => ?_⟩
      have tk6 := TK.of_keep k6 o5.chg
      have hUT6 := TnAll.keep ((TK.of_same s6).trans tk6) hUT
      have rsm := sm_tup rowsSm
      have c3 : ∃ (v : V) (d : PyData), atI [V.non, .ref sl, .bl true] u = some v ∧ Dm K N H6 v d ∧ smB 5 d = true ∧ isTup d = false := by
        have c : u = 0 ∨ u = 1 ∨ u = 2 := by omega
        rcases c with rfl | rfl | rfl
        · exact ⟨.non, .none, rfl, .non, rfl, rfl⟩
        · exact ⟨.ref sl, .list (rowsD qq.2), rfl, .lst nslN (SqL.of (k6 _ _ nsl eu)) (TnAll.dm hUT6), sm_of_list rsm.1 fun x hx => sm_le (rsm.2 x hx) (by decide), rfl⟩
        · exact ⟨.bl true, .bool true, rfl, .bl true, rfl, rfl⟩
      obtain ⟨v7, d7, hat7, hd7, hs7, ht7⟩ := c3
      refine ⟨pl, _, u, v7, rfl, rfl, SqL.of (k6 _ _ npl el), hat7, by show 2 ≤ sizeLine; decide, fun p1 hp1 => ?_⟩
      have s7 := Same.new hp1 (.tup [V.str qq.1, v7])
      exact ⟨_, _, rfl, ((k4.trans (Same.keep s6 st)).trans k6).trans (Same.keep s7 st), stGo o6 s7, .tup (SqT.of upd_same) (.cons (.str _) (.cons (Dm.same s7 hd7) .nil)), sm_of_tup (by show 2 ≤ 100; decide) (sm_two smn hs7), pairOk_pair (.inr ht7)⟩
    · exact if_false_of (decide_eq_false (fun h => e7 (by injection h))) ⟨_, _, rfl, k4, o4, hd, hs, hg⟩
  clear hd hs hg k4 o4 vp d H4
  rintro σ H4 ⟨vp, d, rfl, k4, o4, hd, hs, hg⟩
  have k04 := k12.trans k4
  have hA4 := SqT.tk (TK.of_keep k4 o2.chg) hA2
  have hT4 := TnAll.keep (TK.of_keep k4 o2.chg) hT2
  refine ⟨_, rfl, _, rfl, t, rfl, ?_⟩
  refine sl_all hA4 fun p1 H5 s5 h5 => ?_
  rw [et, cut_to _ _ (by omega)] at h5
  refine ⟨_, rfl, by show 1 ≤ sizeLine; decide, fun p2 hp2 => ?_⟩
  have s6 := Same.new hp2 (.tup [vp])
  refine cat_all (SqT.same s6 h5) (SqT.of upd_same) (Nat.le_of_lt (small1000 (by rw [List.length_take]; show min _ xs.length + 1 ≤ 1000; omega))) (fun c H7 s7 hc => ?_)
  have s47 := (s5.trans s6).trans s7
  refine ⟨_, rfl, _, rfl, t, 1, rfl, rfl, t + 1, rfl, ?_⟩
  dsimp only [tNoPart]
  refine sl_all (SqT.same s47 hA4) fun p3 H8 s8 h8 => ?_
  rw [show t + 1 = ((t.toNat + 1 : Nat) : Int) by omega, cut_from] at h8
  refine cat_all (SqT.same s8 hc) h8 (Nat.le_of_lt (small1000 (by rw [List.length_append, List.length_take, List.length_drop]; show min _ xs.length + 1 + (xs.length - (t.toNat + 1)) ≤ 1000; omega))) (fun c2 H9 s9 hc2 => ?_)
  have s49 := (s47.trans s8).trans s9
  refine q _ (.tuple (((ps.map Td.pairD).take t.toNat ++ [d]) ++ (ps.map Td.pairD).drop (t.toNat + 1))) _ (k04.trans (Same.keep s49 st)) (stGo o4 s49) (.tup hc2 ?_) (sm_of_tup ?_ (sm_mid smD hs)) (good_mid gD hg)
  · have hD4 : DmAll K N H9 xs (ps.map Td.pairD) := TnAll.dm (TnAll.keep (TK.of_same s49) hT4)
    exact DmAll.append (DmAll.append (DmAll.take _ hD4) (.cons (Dm.same s49 hd) .nil)) (DmAll.drop _ hD4)
  · have := @mid_length _ (ps.map Td.pairD) d t.toNat
    omega
end
end K01
namespace K01
open PySem PySem.Spec PyProof.Rows L2 Td
theorem lie {Q : Prop} (h : true = false) : Q := by cases h
theorem shape_of {d : PyData} (h : d.canLay0 = true) (k : d.depth ≤ 60) : SeqAt.shaped d = true := by
  unfold SeqAt.shaped
  rw [h, Bool.true_and]
  exact decide_eq_true (by omega)
theorem eq_same {K : PySem.W.Frag} {H : Hp} {x y : V} {d : PyData} {Q : VK} (h1 : Dp K H x d) (h2 : Dp K H y d) (hc : d.canLay0 = true) (hd : d.depth ≤ 60) (q : Q (.bl true) H) : rEqD K x y H Q :=
  ⟨d, d, h1, h2, shape_of hc hd, shape_of hc hd, by rw [SeqAt.eqv_refl d hc]; exact q⟩
theorem ne_same {K : PySem.W.Frag} {H : Hp} {x y : V} {d : PyData} {Q : VK} (h1 : Dp K H x d) (h2 : Dp K H y d) (hc : d.canLay0 = true) (hd : d.depth ≤ 60) (q : Q (.bl false) H) : rNeD K x y H Q :=
  ⟨d, d, h1, h2, shape_of hc hd, shape_of hc hd, by rw [SeqAt.eqv_refl d hc]; exact q⟩
/-! ### bodies without rows but the last -/
theorem cnts_zero {rs : List Td.Row} (h : cnts rs = 0) : rs = [] := by
  cases rs with
  | nil => rfl
  | cons r l =>
    have := cnt_pos r
    simp only [cnts] at h
    omega
theorem bare_of {eff : Bool} {rs : List Td.Row} {S : Sc} (hl : Lim eff 1 rs) (ok : okRs S 1 rs) (hS : S.eff = eff) : bareRows eff rs := by
  obtain ⟨_, rs0, t, rfl, c, ht⟩ := hl
  obtain rfl := cnts_zero (rs := rs0) (by omega)
  rcases ht with rfl | ⟨s, rfl⟩
  · exact bare_nil eff
  · rw [List.nil_append] at ok ⊢
    cases eff with
    | false =>
      have ok' : okR S 1 (.give s) := by
        have h : okRs S 1 [Td.Row.give s] := ok
        unfold okRs at h
        exact h.1
      unfold okR at ok'
      refine ⟨fun S' h' => okRs_one (by unfold okR; exact ⟨h', ok'.2⟩), by simp [cnts, Td.cnt], ?_⟩
      show smB 3 (.tuple (rowsD [Td.Row.give s])) = true
      unfold rowsD rowsD rowD
      refine sm_of_tup (by show 1 ≤ 100; decide) fun x hx => ?_
      rw [List.mem_singleton.mp hx]
      exact sm_of_tup (by show 2 ≤ 100; decide) (sm_two (by decide +kernel) (sm_of_nm ok'.2))
    | true =>
      have ok' : okR S 1 (.say s) := by
        have h : okRs S 1 [Td.Row.say s] := ok
        unfold okRs at h
        exact h.1
      unfold okR at ok'
      refine ⟨fun S' h' => okRs_one (by unfold okR; exact ⟨h', ok'.2⟩), by simp [cnts, Td.cnt], ?_⟩
      show smB 3 (.tuple (rowsD [Td.Row.say s])) = true
      unfold rowsD rowsD rowD
      refine sm_of_tup (by show 1 ≤ 100; decide) fun x hx => ?_
      rw [List.mem_singleton.mp hx]
      exact sm_of_tup (by show 2 ≤ 100; decide) (sm_two (by decide +kernel) (sm_of_nm ok'.2))
theorem sm_pairs {eff : Bool} {ps : List (Str × List Td.Row)} (hl : ps.length ≤ 100) (pb : ∀ q ∈ ps, isNm q.1 = true ∧ bareRows eff q.2) : smB 7 (pairsD ps) = true := by
  refine sm_of_tup (by rw [List.length_map]; exact hl) fun x hx => ?_
  obtain ⟨y, hy, rfl⟩ := List.mem_map.mp hx
  obtain ⟨h1, _, _, h2⟩ := pb y hy
  exact sm_le (j := 4) (sm_of_tup (by show 2 ≤ 100; decide) (sm_two (sm_of_nm h1) h2)) (by decide)
theorem good_pairs {eff : Bool} {ps : List (Str × List Td.Row)} (pb : ∀ q ∈ ps, isNm q.1 = true ∧ bareRows eff q.2) : GoodPairs eff (pairsD ps) := fun x hx => by
  have hx' : x ∈ ps.map Td.pairD := hx
  obtain ⟨y, hy, rfl⟩ := List.mem_map.mp hx'
  exact pairOk_pair (.inl (pb y hy).2.d)
theorem sm_strs {zs : List Str} (hl : zs.length ≤ 100) (h : ∀ z ∈ zs, isNm z = true) : smB 7 (strsD zs) = true := sm_of_tup (by rw [List.length_map]; exact hl) (sm_names h)
/-- right parts have pairs for bodies -/
theorem bodies_of {d1 d2 d3 d4 : PyData} (e : partsFault d1 d2 d3 d4 = none) (h3 : GoodPairs false d3) (h4 : GoodPairs true d4) : (∀ d ∈ tupOf d3, BodyG false d) ∧ (∀ d ∈ tupOf d4, BodyG true d) := by
  unfold partsFault at e
  split at e
  · cases e
  · split at e
    · cases e
    · split at e
      · cases e
      · rename_i n3
        split at e
        · cases e
        · rename_i n4
          have go : ∀ {eff : Bool} {m : Int} {ts : List Str} {d : PyData}, GoodPairs eff d → ¬ pairsOk m ts d = false → ∀ x ∈ tupOf d, BodyG eff x := fun {eff m ts d} hg hn x hx => by
            have hy : pairsOk m ts d = true := by simpa using hn
            obtain ⟨ds, rfl, _, hgo⟩ := pairsOk_yes hy
            obtain ⟨i1, _, _⟩ := goP_names ds ts hgo
            refine hg x hx ?_
            have hx' : x ∈ ds := hx
            have : pairNm x ∈ (nmsOf ds).map some := by rw [← i1]; exact List.mem_map.mpr ⟨x, hx', rfl⟩
            obtain ⟨z, _, hz⟩ := List.mem_map.mp this
            rw [← hz]
            rfl
          exact ⟨go h3 n3, go h4 n4⟩
def foundD (pt : Str) (pd : PyData) : PyData := .tuple [.str pt, pd, .bool true, .bool true, .bool false]
theorem found_ok {d1 d2 d3 d4 : PyData} {pt : Str} {pd : PyData} (e : faultD d1 d2 d3 d4 = some (pt, pd)) : (foundD pt pd).canLay0 = true ∧ (foundD pt pd).depth ≤ 60 := by
  have key : ∀ {pt : Str} {pd : PyData}, PyData.strOk pt = true → pd.canLay0 = true → pd.depth ≤ 5 → (foundD pt pd).canLay0 = true ∧ (foundD pt pd).depth ≤ 60 := fun h1 h2 h3 => by
    unfold foundD
    refine ⟨?_, ?_⟩
    · simp only [PyData.canLay0, PyData.canLayAll0, h1, h2]
      rfl
    · simp only [PyData.depth, PyData.depthAll]
      omega
  have e0 : (PyData.tuple []).canLay0 = true ∧ (PyData.tuple []).depth ≤ 5 := ⟨by simp only [PyData.canLay0, PyData.canLayAll0], by simp [PyData.depth, PyData.depthAll]⟩
  unfold faultD at e
  cases hp : partsFault d1 d2 d3 d4 with
  | some q =>
    rw [hp] at e
    cases e
    refine key ?_ e0.1 e0.2
    unfold partsFault at hp
    split at hp
    · cases hp; decide +kernel
    · split at hp
      · cases hp; decide +kernel
      · split at hp
        · cases hp; decide +kernel
        · split at hp
          · cases hp; decide +kernel
          · cases hp
  | none =>
    rw [hp] at e
    cases hb : bodiesFault (tupOf d3) (tupOf d4) with
    | none => rw [hb] at e; cases e
    | some q =>
      rw [hb] at e
      cases e
      have hk : PyData.strOk (kdS q.1) = true := by cases q.1 <;> decide +kernel
      refine key (by decide +kernel) ?_ ?_
      · simp only [PyData.canLay0, PyData.canLayAll0, hk]
        rfl
      · simp [PyData.depth, PyData.depthAll]
theorem parts_at {K : PySem.W.Frag} {H : Hp} {v : V} {p : PP} (h : Tn K H v p.data) : ∃ (pa aw as : Addr) (vd ve : V), v = .ref pa ∧ SqT K H pa [.ref aw, .ref as, vd, ve] ∧ SqT K H aw (p.words.map V.str) ∧ SqT K H as (p.sources.map V.str) ∧ Tn K H vd (pairsD p.derived) ∧ Tn K H ve (pairsD p.effects) := by
  obtain ⟨pa, xs, rfl, hS, hT⟩ := Tn.tup_inv h
  cases hT with
  | cons c1 t1 =>
    cases t1 with
    | cons c2 t2 =>
      cases t2 with
      | cons c3 t3 =>
        cases t3 with
        | cons c4 t4 =>
          cases t4
          obtain ⟨aw, ws, rfl, hw, hw2⟩ := Tn.tup_inv c1
          obtain ⟨as, ss, rfl, hs, hs2⟩ := Tn.tup_inv c2
          have e1 := hw2.strs_inv
          have e2 := hs2.strs_inv
          subst e1 e2
          exact ⟨pa, aw, as, _, _, rfl, hS, hw, hs, c3, c4⟩
def spPartL (K : PySem.W.Frag) : Sp := fun vs H Q _ => ∃ (a : Addr) (ns : List Int), vs = [.ref a] ∧ SqL K H a (ns.map V.int) ∧ ns.length ≤ 63 ∧ ∀ H', Q (.bl true) H'
/-- what stands while parts are spoiled -/
structure Sp4 (K : PySem.W.Frag) (N : Addr → Prop) (H : Hp) (st sc pl : Addr) (d1 d2 d3 d4 : PyData) : Prop where
  ok : StOk H st sc
  kn : Known N H
  ex : ∃ v1 v2 v3 v4, H pl = some (.lst [v1, v2, v3, v4]) ∧ Dm K N H v1 d1 ∧ Dm K N H v2 d2 ∧ Dm K N H v3 d3 ∧ Dm K N H v4 d4
  m1 : smB 7 d1 = true
  m2 : smB 7 d2 = true
  m3 : smB 7 d3 = true
  m4 : smB 7 d4 = true
  g3 : GoodPairs false d3
  g4 : GoodPairs true d4
theorem Sp4.move {K : PySem.W.Frag} {N : Addr → Prop} {H H' : Hp} {st sc pl : Addr} {d1 d2 d3 d4 : PyData} (h : Sp4 K N H st sc pl d1 d2 d3 d4) (k : Keep st H H') (o : StOk H' st sc) (hs : N st) (np : pl ≠ st) : Sp4 K N H' st sc pl d1 d2 d3 d4 := by
  obtain ⟨v1, v2, v3, v4, ep, a1, a2, a3, a4⟩ := h.ex
  have kn : ∀ b o, ¬ N b → H b = some o → H' b = some o := fun b o nb e => k b o (fun z => nb (by rw [z]; exact hs)) e
  have tk := TK.of_keep k h.ok.chg
  exact ⟨o, h.kn.keep k o, ⟨v1, v2, v3, v4, k _ _ np ep, Dm.keep kn tk a1, Dm.keep kn tk a2, Dm.keep kn tk a3, Dm.keep kn tk a4⟩, h.m1, h.m2, h.m3, h.m4, h.g3, h.g4⟩
theorem Sp4.same {K : PySem.W.Frag} {N : Addr → Prop} {H H' : Hp} {st sc pl : Addr} {d1 d2 d3 d4 : PyData} (h : Sp4 K N H st sc pl d1 d2 d3 d4) (s : Same H H') : Sp4 K N H' st sc pl d1 d2 d3 d4 := by
  obtain ⟨v1, v2, v3, v4, ep, a1, a2, a3, a4⟩ := h.ex
  exact ⟨stGo h.ok s, h.kn.same s, ⟨v1, v2, v3, v4, s _ _ ep, Dm.same s a1, Dm.same s a2, Dm.same s a3, Dm.same s a4⟩, h.m1, h.m2, h.m3, h.m4, h.g3, h.g4⟩
theorem sp4_put {K : PySem.W.Frag} {N : Addr → Prop} {H : Hp} {st sc pl : Addr} {d1 d2 d3 d4 : PyData} {v1 v2 v3 v4 : V} {xs : List V} (o : StOk H st sc) (kn : Known N H) (n1 : pl ≠ st) (n2 : pl ≠ sc) (hp : N pl) (e : H pl = some (.lst xs))
    (a1 : Dm K N H v1 d1) (a2 : Dm K N H v2 d2) (a3 : Dm K N H v3 d3) (a4 : Dm K N H v4 d4) (m1 : smB 7 d1 = true) (m2 : smB 7 d2 = true) (m3 : smB 7 d3 = true) (m4 : smB 7 d4 = true) (g3 : GoodPairs false d3) (g4 : GoodPairs true d4) :
    Sp4 K N (upd H pl (.lst [v1, v2, v3, v4])) st sc pl d1 d2 d3 d4 := by
  have kn' : ∀ b o, ¬ N b → H b = some o → upd H pl (.lst [v1, v2, v3, v4]) b = some o := fun b o nb e => by rw [upd_ne (fun z => nb (by rw [z]; exact hp))]; exact e
  have tk : TK H (upd H pl (.lst [v1, v2, v3, v4])) := TK.upd (by rw [e]; trivial)
  refine ⟨o.other n1 n2, fun b hb z => ?_, ⟨v1, v2, v3, v4, upd_same, Dm.keep kn' tk a1, Dm.keep kn' tk a2, Dm.keep kn' tk a3, Dm.keep kn' tk a4⟩, m1, m2, m3, m4, g3, g4⟩
  by_cases eb : b = pl
  · rw [eb, upd_same] at z; cases z
  · rw [upd_ne eb] at z; exact kn b hb z
section
variable {P : Program} {w : World} {K : PySem.W.Frag} {mg : Str → Option Value} {base : Heap}
theorem ok_law_second (T : Tops w K mg)
    (G__law_state : FnOk P w K mg base CX0 1 T.a__law_state T.d__law_state ["_law_script"] (spState K))
    (G__law_draw : FnOk P w K mg base CX0 1 T.a__law_draw T.d__law_draw ["_law_state_here", "_law_many_here"] spDraw)
    (G__law_parts : FnOk P w K mg base CX0 11 T.a__law_parts T.d__law_parts ["_law_state_here", "_law_sizes", "_law_peeks", "_law_writes"] (spParts K))
    (G__law_bad_names : FnOk P w K mg base CX0 3 T.a__law_bad_names T.d__law_bad_names ["_law_state_here", "_law_names_here", "_law_most"] (spBadNames K))
    (G__law_bad_pairs : FnOk P w K mg base CX0 3 T.a__law_bad_pairs T.d__law_bad_pairs ["_law_state_here", "_law_pairs", "_law_sources", "_law_most"] (spBadPairs K))
    (G__law_first_fault : FnOk P w K mg base CX0 3 T.a__law_first_fault T.d__law_first_fault ["_law_parts_here"] (spFirstFault K))
    (G_Program_init : FnOk P w K mg base (L2.CX P w) 10 T.a_Program_init T.d_Program_init ["self", "words", "sources", "derived", "effects"] (spProgG K T.c_Program T.c_InvalidProgram)) :
    FnOk P w K mg base CX0 12 T.a__law_second_part T.d__law_second_part ["_law_script"] (spPartL K) := by
  refine T.F__law_second_part.ok sc_law_second_part (fun vs H Q E h => ?_) (fun cdv A outer s H vs Q E hr h => ?_)
  · obtain ⟨a, ns, rfl, _⟩ := h
    rfl
  obtain ⟨a, ns, rfl, hN, hlen, q⟩ := h
  refine ⟨_, (pss_cons (ps_set (i := 1) sc_law_second_part.nd rfl (Or.inr rfl) (pe_call G__law_state (hr.mono (by omega)) rfl T.m__law_state T.F__law_state.kp T.b__law_state .nil pass0 (pa_cons (pv 0) pa_nil)))
    (pss_cons (ps_set (i := 2) sc_law_second_part.nd rfl (Or.inl rfl) (pe_call G__law_draw (hr.mono (by omega)) rfl T.m__law_draw T.F__law_draw.kp T.b__law_draw .nil pass0 (pa_cons (pv 1) (pa_cons pe_int pa_nil))))
    (pss_cons (ps_setLc (i := 3) (own := [("_law_turn", 10)]) (g := gName 10) (tt := tYes) (te := tCall spDraw [] E0 (tCons (tVar 1) (tCons (tC (.int 4)) tNil))) rfl sc_law_second_part.nd rfl rfl (sw_true rfl rfl rfl (by decide +kernel)) (pi_range1 rfl T.z_range (pa_cons (pv 2) pa_nil)) (blkOk_by (own := [("_law_turn", 10)]) (N := N_law_second_part) (sc := defScope s_law_second_part) (by decide +kernel)) (fun _ _ _ _ _ => (pg_name (i := 10) sc_law_second_part.nd rfl (Or.inl rfl))) (fun _ _ _ _ _ => pts_nil) (fun _ _ _ _ _ => (pe_call G__law_draw (hr.mono (by omega)) rfl T.m__law_draw T.F__law_draw.kp T.b__law_draw .nil pass0 (pa_cons (pv 1) (pa_cons pe_int pa_nil)))))
    (pss_cons (ps_set (i := 4) sc_law_second_part.nd rfl (Or.inl rfl) (pe_callTy call_list_of rfl T.z_list (by decide +kernel) (pa_cons (pe_call G__law_parts (hr.mono (by omega)) rfl T.m__law_parts T.F__law_parts.kp T.b__law_parts .nil pass0 (pa_cons (pv 1) (pa_cons (pe_lst (pa_cons pe_int (pa_cons pe_int (pa_cons pe_int (pa_cons pe_int (pa_cons pe_int pa_nil)))))) (pa_cons pe_bl (pa_cons pe_bl pa_nil))))) pa_nil)))
    (pss_cons (ps_set (i := 5) sc_law_second_part.nd rfl (Or.inl rfl) (pe_callTy call_list_of rfl T.z_list (by decide +kernel) (pa_cons (pv 4) pa_nil)))
    (pss_cons (ps_for PassesOwn.never rfl (pi_list (pv 3)) (pg_name (i := 6) sc_law_second_part.nd rfl (Or.inl rfl)) (C8.pss_cut (ps_if (pt_cmpR op_eq (pv 6) pe_int (nomark _)) (pss_one (ps_asg (pe_call G__law_bad_names (hr.mono (by omega)) rfl T.m__law_bad_names T.F__law_bad_names.kp T.b__law_bad_names .nil pass0 (pa_cons (pv 1) (pa_cons (pe_ix ix_list (pv 5) pe_int (fun _ _ => rfl)) (pa_cons pe_int pa_nil)))) (pg_sub (pv 4) pe_int set_list))) pss_nil)
    (C8.pss_cut (ps_if (pt_cmpR op_eq (pv 6) pe_int (nomark _)) (pss_one (ps_asg (pe_call G__law_bad_names (hr.mono (by omega)) rfl T.m__law_bad_names T.F__law_bad_names.kp T.b__law_bad_names .nil pass0 (pa_cons (pv 1) (pa_cons (pe_ix ix_list (pv 5) pe_int (fun _ _ => rfl)) (pa_cons pe_int pa_nil)))) (pg_sub (pv 4) pe_int set_list))) pss_nil)
    (pss_one (ps_if (pt_cmpR op_gt (pv 6) pe_int (nomark _)) (pss_one (ps_asg (pe_call G__law_bad_pairs (hr.mono (by omega)) rfl T.m__law_bad_pairs T.F__law_bad_pairs.kp T.b__law_bad_pairs .nil pass0 (pa_cons (pv 1) (pa_cons (pe_ix ix_list (pv 5) (pv 6) (fun _ _ => rfl)) (pa_cons (pe_ix ix_list (pv 5) pe_int (fun _ _ => rfl)) (pa_cons (pe_ix ix_list (pe_lst (pa_cons pe_int (pa_cons pe_int pa_nil))) (pe_op op_sub (pv 6) pe_int) (fun _ _ => rfl)) pa_nil))))) (pg_sub (pv 4) (pv 6) set_list))) pss_nil)))))
    (pss_cons (ps_set (i := 7) sc_law_second_part.nd rfl (Or.inl rfl) (pe_call G__law_first_fault (hr.mono (by omega)) rfl T.m__law_first_fault T.F__law_first_fault.kp T.b__law_first_fault .nil pass0 (pa_cons (pv 4) pa_nil)))
    (pss_cons (ps_set (i := 8) sc_law_second_part.nd rfl (Or.inl rfl) pe_non)
    (pss_cons (ps_try_asL rfl rfl sc_law_second_part.nd takes0 (fun W pn xe tk _ => (pss_one (ps_expr (pe_makeAt T.k_Program G_Program_init (hr.mono (by omega)) rfl T.m_Program T.b_Program_init (fun σ => passAt tk σ) (pa_cons (pe_ix (r := rIxL K) ix_list (pv 4) pe_int (fun _ _ => rfl)) (pa_cons (pe_ix (r := rIxL K) ix_list (pv 4) pe_int (fun _ _ => rfl)) (pa_cons (pe_ix (r := rIxL K) ix_list (pv 4) pe_int (fun _ _ => rfl)) (pa_cons (pe_ix (r := rIxL K) ix_list (pv 4) pe_int (fun _ _ => rfl)) pa_nil)))))))) (Clauses.more (i := 9) rfl rfl ⟨rfl, by decide, .inl T.m_InvalidProgram⟩ (fun a oe cls d pn hz hf => (pss_one (ps_set (i := 8) sc_law_second_part.nd rfl (Or.inl rfl) (pe_tup (pa_cons (pe_xf ⟨T.xa_InvalidProgram, T.xg_InvalidProgram, T.x_InvalidProgram.exC, T.xh_InvalidProgram⟩ T.n_InvalidProgram_part hz hf (pv 9)) (pa_cons (pe_xf ⟨T.xa_InvalidProgram, T.xg_InvalidProgram, T.x_InvalidProgram.exC, T.xh_InvalidProgram⟩ T.n_InvalidProgram_path hz hf (pv 9)) (pa_cons (pe_callB (call_isX T.xc_InvalidProgram hz hf) rfl T.z_isinstance (by decide +kernel) (pa_cons (pv 9) (pa_cons (pe_glob (v := .ref T.c_ToldError) rfl T.m_ToldError rfl) pa_nil))) (pa_cons (pe_callB (call_isX T.xc_InvalidProgram hz hf) rfl T.z_isinstance (by decide +kernel) (pa_cons (pv 9) (pa_cons (pe_bltn (v := .ty "ValueError") rfl T.z_ValueError (by decide +kernel) rfl) pa_nil))) (pa_cons (pe_callB (call_isX T.xc_InvalidProgram hz hf) rfl T.z_isinstance (by decide +kernel) (pa_cons (pv 9) (pa_cons (pe_glob (v := .ref T.c_InvalidPath) rfl T.m_InvalidPath rfl) pa_nil))) pa_nil))))))))) Clauses.none))
    (pss_cons (ps_if (pt_cmpR op_isN (pv 7) pe_non (nomark _)) (pss_one (ps_ret (pe_cmpR op_isN (pv 8) pe_non (nomark _)))) pss_nil)
    (pss_one (ps_ret (pe_cmpR (op_eqD hr.units) (pv 8) (pe_tup (pa_cons (pe_ix ix_tup (pv 7) pe_int (fun _ _ => rfl)) (pa_cons (pe_ix ix_tup (pv 7) pe_int (fun _ _ => rfl)) (pa_cons pe_bl (pa_cons pe_bl (pa_cons pe_bl pa_nil)))))) (nomark _)))))))))))))), ?_⟩
  refine ⟨_, rfl, a, ns, rfl, hN, hlen, fun st sc H1 s1 f1 f2 o1 => ?_⟩
  refine ⟨_, rfl, st, sc, 3, rfl, by decide, by decide, o1, fun mn H2 m0 m1 k2 o2 _ => ?_⟩
  refine ⟨_, rfl, mn, rfl, by omega, by omega, fun D hD => lc_range (lo := 0) (n := mn.toNat) (fun i H' => ∃ us : List Int, Keep st H2 H' ∧ StOk H' st sc ∧ H' D = some (.lst (us.map V.int)) ∧ us.length = i ∧ ∀ u ∈ us, 0 ≤ u ∧ u < 4)
    ⟨[], Keep.new hD, o2.new hD, upd_same, rfl, fun u h => by cases h⟩ ?_ ?_⟩
  · rintro i H' hi ⟨us, hk, ho, hb, ul, hu⟩
    refine ⟨rfl, tYes_of ?_⟩
    have nD := o2.ne hD
    refine ⟨_, rfl, st, sc, 4, rfl, by decide, by decide, ho, fun u H4 u0 u1 k4 o4 _ => ?_⟩
    refine ⟨_, k4 _ _ nD.1 hb, small1000 (by rw [List.length_map]; omega), us ++ [u], (hk.trans k4).own hD, o4.other nD.1 nD.2, by rw [upd_same, List.map_append]; rfl, by rw [List.length_append, ul]; rfl, fun x hx => ?_⟩
    rcases List.mem_append.mp hx with h | h
    · exact hu x h
    · rw [List.mem_singleton.mp h]; exact ⟨u0, u1⟩
  rintro H3 ⟨us, k3, o3, hb3, ul, hu⟩
  have nD := o2.ne hD
  refine ⟨_, rfl, by show 5 ≤ sizeLine; decide, fun z hz => ?_⟩
  have o3' := o3.new (o := .lst [V.int 3, .int 4, .int 6, .int 4, .int 0]) hz
  refine ⟨st, sc, z, 3, 4, 6, 4, 0, true, true, rfl, o3', SqL.of upd_same, (o3.ne hz).1, by decide, by decide, by decide, by decide, by decide, by decide, by decide, by decide, by decide, by decide, fun v p H5 k5 o5 ok hDt => ?_⟩
  have k35 : Keep st H3 H5 := (Keep.new hz).trans k5
  have hb5 := k35 _ _ nD.1 hb3
  obtain ⟨pa, aw, as, vd, ve, rfl, hP, h1, h2, h3, h4⟩ := parts_at hDt
  have w2 := ok.w2
  have w4 := ok.w4
  have s1' := ok.s1
  have s4 := ok.s4
  have e4 := ok.e4
  have d6 := ok.d6
  have wnm : ∀ z ∈ p.words, isNm z = true := ok.wn.good
  have snm : ∀ z ∈ p.sources, isNm z = true := fun z hz => ok.nn.good z (List.mem_append_left _ (List.mem_append_left _ hz))
  have pb3 : ∀ q ∈ p.derived, isNm q.1 = true ∧ bareRows false q.2 := fun q hq => by
    obtain ⟨i, hi⟩ := List.getElem?_of_mem hq
    exact ⟨ok.nn.good _ (List.mem_append_left _ (List.mem_append_right _ (List.mem_map.mpr ⟨q, hq, rfl⟩))), bare_of (okDer_lim ok.der hq) (okDer_get ok.der hi).1 rfl⟩
  have pb4 : ∀ q ∈ p.effects, isNm q.1 = true ∧ bareRows true q.2 := fun q hq => by
    obtain ⟨i, hi⟩ := List.getElem?_of_mem hq
    exact ⟨ok.nn.good _ (List.mem_append_right _ (List.mem_map.mpr ⟨q, hq, rfl⟩)), bare_of (okEff_lim ok.eff hq) (okEff_get ok.eff hi).1 rfl⟩
  refine ⟨pa, _, rfl, .inr hP, fun pl hpl => ?_⟩
  have npl := o5.ne hpl
  have s6 := Same.new hpl (.lst [V.ref aw, .ref as, vd, ve])
  have epl : upd H5 pl (.lst [V.ref aw, .ref as, vd, ve]) pl = some (.lst [V.ref aw, .ref as, vd, ve]) := upd_same
  try dsimp only
  generalize upd H5 pl (.lst [V.ref aw, .ref as, vd, ve]) = H6 at s6 epl
  refine ⟨_, rfl, pl, _, rfl, .inl (SqL.of epl), fun gl hgl => ?_⟩
  have ngl := ((stGo o5 s6).ne hgl).1
  have ngp : gl ≠ pl := fun e => by rw [e, epl] at hgl; cases hgl
  have s7 := s6.trans (Same.new hgl (.lst [V.ref aw, .ref as, vd, ve]))
  have epl7 := Same.new hgl (.lst [V.ref aw, .ref as, vd, ve]) _ _ epl
  have egl : upd H6 gl (.lst [V.ref aw, .ref as, vd, ve]) gl = some (.lst [V.ref aw, .ref as, vd, ve]) := upd_same
  try dsimp only
  generalize upd H6 gl (.lst [V.ref aw, .ref as, vd, ve]) = H7 at s7 epl7 egl
  have o7 := stGo o5 s7
  have hb7 := s7 _ _ hb5
  have nDp : D ≠ pl := fun e => by rw [e] at hb5; rw [hb5] at hpl; cases hpl
  have tA := SqT.same s7 h1
  have tS := SqT.same s7 h2
  have tD := Tn.same s7 h3
  have tE := Tn.same s7 h4
  have st0 : Sp4 K (fun b => b = st ∨ b = pl) H7 st sc pl (strsD p.words) (strsD p.sources) (pairsD p.derived) (pairsD p.effects) :=
    ⟨o7, (fun b hb e => by
      rcases hb with rfl | rfl
      · obtain ⟨L, hL⟩ := o7.at
        rw [hL] at e
        cases e
      · rw [epl7] at e; cases e), ⟨_, _, _, _, epl7, .tup tA (DmAll.strs _), .tup tS (DmAll.strs _), Tn.dm tD, Tn.dm tE⟩, sm_strs (by omega) wnm, sm_strs (by omega) snm, sm_pairs (by omega) pb3, sm_pairs (by omega) pb4, good_pairs pb3, good_pairs pb4⟩
  have upT : ∀ {X : Hp} {o : HO}, (∃ L, X pl = some (.lst L)) → TK X (upd X pl o) := fun {X o} ⟨L, e⟩ => TK.upd (by rw [e]; trivial)
  refine ⟨_, rfl, D, rfl, ⟨_, SqL.of hb7⟩, for_list (K := K) (a := D) (xs := us.map V.int) (fun i σ H' => ∃ (d1 d2 d3 d4 : PyData) (v6 : Option V), σ = [some (.ref a), some (.ref st), some (.int mn), some (.ref D), some (.ref pl), some (.ref gl), v6, none, none, none, none] ∧ TK H7 H' ∧ H' gl = some (.lst [V.ref aw, .ref as, vd, ve]) ∧ H' D = some (.lst (us.map V.int)) ∧ Sp4 K (fun b => b = st ∨ b = pl) H' st sc pl d1 d2 d3 d4)
    ⟨_, _, _, _, none, rfl, TK.refl _, egl, hb7, st0⟩ (fun i σ H' _ ⟨_, _, _, _, _, _, _, _, h, _⟩ => SqL.of h) ?_ ?_⟩
  · rintro i x σ H8 hx ⟨d1, d2, d3, d4, v6, rfl, tk, eg, eD, S⟩
    rw [List.getElem?_map] at hx
    obtain ⟨u, huu, rfl⟩ := Option.map_eq_some_iff.mp hx
    obtain ⟨u0, u4⟩ := hu u (List.mem_of_getElem? huu)
    -- words
    refine ⟨fun σ' H' => ∃ (d1 d2 d3 d4 : PyData), σ' = [some (.ref a), some (.ref st), some (.int mn), some (.ref D), some (.ref pl), some (.ref gl), some (.int u), none, none, none, none] ∧ TK H7 H' ∧ H' gl = some (.lst [V.ref aw, .ref as, vd, ve]) ∧ H' D = some (.lst (us.map V.int)) ∧ Sp4 K (fun b => b = st ∨ b = pl) H' st sc pl d1 d2 d3 d4, ?_, ?_⟩
    · refine ⟨_, rfl, rfl, _, rfl, ?_⟩
      by_cases c0 : u = 0
      · refine if_true_of (by rw [c0]; exact decide_eq_true rfl) ?_
        refine ⟨_, rfl, _, rfl, gl, _, 0, _, rfl, rfl, SqL.of eg, rfl, fun b => b = st ∨ b = pl, st, sc, aw, p.words, 4, rfl, S.kn, S.ok, SqT.tk tk tA, wnm, by omega, by omega, rfl, fun v d H9 k9 o9 hv hs => ?_⟩
        have S9 := S.move k9 o9 (.inl rfl) npl.1
        obtain ⟨v1, v2, v3, v4, ep, a1, a2, a3, a4⟩ := S9.ex
        refine ⟨_, rfl, pl, _, 0, 0, rfl, rfl, ep, rfl, ?_⟩
        have tk9 := TK.of_keep k9 S.ok.chg
        exact ⟨_, _, _, _, rfl, (tk.trans tk9).trans (upT ⟨_, ep⟩), by rw [upd_ne ngp]; exact k9 _ _ ngl eg, by rw [upd_ne nDp]; exact k9 _ _ nD.1 eD, sp4_put S9.ok S9.kn npl.1 npl.2 (.inr rfl) ep hv a2 a3 a4 (sm_le hs (by decide)) S9.m2 S9.m3 S9.m4 S9.g3 S9.g4⟩
      · exact if_false_of (decide_eq_false (fun h => c0 (by injection h))) ⟨_, _, _, _, rfl, tk, eg, eD, S⟩
    clear S tk eg eD d1 d2 d3 d4 H8
    rintro σ H8 ⟨d1, d2, d3, d4, rfl, tk, eg, eD, S⟩
    refine ⟨fun σ' H' => ∃ (d1 d2 d3 d4 : PyData), σ' = [some (.ref a), some (.ref st), some (.int mn), some (.ref D), some (.ref pl), some (.ref gl), some (.int u), none, none, none, none] ∧ TK H7 H' ∧ H' gl = some (.lst [V.ref aw, .ref as, vd, ve]) ∧ H' D = some (.lst (us.map V.int)) ∧ Sp4 K (fun b => b = st ∨ b = pl) H' st sc pl d1 d2 d3 d4, ?_, ?_⟩
    · refine ⟨_, rfl, rfl, _, rfl, ?_⟩
      by_cases c1 : u = 1
      · refine if_true_of (by rw [c1]; exact decide_eq_true rfl) ?_
        refine ⟨_, rfl, _, rfl, gl, _, 1, _, rfl, rfl, SqL.of eg, rfl, fun b => b = st ∨ b = pl, st, sc, as, p.sources, 4, rfl, S.kn, S.ok, SqT.tk tk tS, snm, by omega, by omega, rfl, fun v d H9 k9 o9 hv hs => ?_⟩
        have S9 := S.move k9 o9 (.inl rfl) npl.1
        obtain ⟨v1, v2, v3, v4, ep, a1, a2, a3, a4⟩ := S9.ex
        refine ⟨_, rfl, pl, _, 1, 1, rfl, rfl, ep, rfl, ?_⟩
        have tk9 := TK.of_keep k9 S.ok.chg
        exact ⟨_, _, _, _, rfl, (tk.trans tk9).trans (upT ⟨_, ep⟩), by rw [upd_ne ngp]; exact k9 _ _ ngl eg, by rw [upd_ne nDp]; exact k9 _ _ nD.1 eD, sp4_put S9.ok S9.kn npl.1 npl.2 (.inr rfl) ep a1 hv a3 a4 S9.m1 (sm_le hs (by decide)) S9.m3 S9.m4 S9.g3 S9.g4⟩
      · exact if_false_of (decide_eq_false (fun h => c1 (by injection h))) ⟨_, _, _, _, rfl, tk, eg, eD, S⟩
    clear S tk eg eD d1 d2 d3 d4 H8
    rintro σ H8 ⟨d1, d2, d3, d4, rfl, tk, eg, eD, S⟩
    refine ⟨_, rfl, _, _, rfl, rfl, _, rfl, ?_⟩
    by_cases c2 : 1 < u
    · refine if_true_of (decide_eq_true c2) ?_
      have c23 : u = 2 ∨ u = 3 := by omega
      rcases c23 with rfl | rfl
      · refine ⟨_, rfl, _, rfl, _, rfl, gl, _, 2, _, rfl, rfl, SqL.of eg, rfl, _, rfl, gl, _, 1, _, rfl, rfl, SqL.of eg, rfl, by show 2 ≤ sizeLine; decide, fun l2 hl2 => ?_⟩
        have s8 := Same.new hl2 (.lst [V.int 6, .int 4])
        have o8 := stGo S.ok s8
        have tk8 := tk.trans (TK.of_same s8)
        refine ⟨_, rfl, _, _, rfl, rfl, l2, _, 0, _, rfl, rfl, SqL.of upd_same, rfl, fun b => b = st ∨ b = pl, st, sc, as, vd, p.derived, p.sources, 6, false, rfl, S.kn.same s8, o8, Tn.keep tk8 tD, SqT.tk tk8 tS, snm, by omega, by omega, by omega, by omega, by decide, pb3, fun v d H9 k9 o9 hv hs hg => ?_⟩
        have S9 := (S.same s8).move k9 o9 (.inl rfl) npl.1
        obtain ⟨v1, v2, v3, v4, ep, a1, a2, a3, a4⟩ := S9.ex
        refine ⟨_, rfl, _, rfl, pl, _, 2, 2, rfl, rfl, ep, rfl, ?_⟩
        have tk9 := TK.of_keep k9 o8.chg
        exact ⟨_, _, _, _, _, rfl, (tk8.trans tk9).trans (upT ⟨_, ep⟩), by rw [upd_ne ngp]; exact k9 _ _ ngl (s8 _ _ eg), by rw [upd_ne nDp]; exact k9 _ _ nD.1 (s8 _ _ eD), sp4_put S9.ok S9.kn npl.1 npl.2 (.inr rfl) ep a1 a2 hv a4 S9.m1 S9.m2 hs S9.m4 hg S9.g4⟩
      · refine ⟨_, rfl, _, rfl, _, rfl, gl, _, 3, _, rfl, rfl, SqL.of eg, rfl, _, rfl, gl, _, 1, _, rfl, rfl, SqL.of eg, rfl, by show 2 ≤ sizeLine; decide, fun l2 hl2 => ?_⟩
        have s8 := Same.new hl2 (.lst [V.int 6, .int 4])
        have o8 := stGo S.ok s8
        have tk8 := tk.trans (TK.of_same s8)
        refine ⟨_, rfl, _, _, rfl, rfl, l2, _, 1, _, rfl, rfl, SqL.of upd_same, rfl, fun b => b = st ∨ b = pl, st, sc, as, ve, p.effects, p.sources, 4, true, rfl, S.kn.same s8, o8, Tn.keep tk8 tE, SqT.tk tk8 tS, snm, by omega, by omega, by omega, by omega, by decide, pb4, fun v d H9 k9 o9 hv hs hg => ?_⟩
        have S9 := (S.same s8).move k9 o9 (.inl rfl) npl.1
        obtain ⟨v1, v2, v3, v4, ep, a1, a2, a3, a4⟩ := S9.ex
        refine ⟨_, rfl, _, rfl, pl, _, 3, 3, rfl, rfl, ep, rfl, ?_⟩
        have tk9 := TK.of_keep k9 o8.chg
        exact ⟨_, _, _, _, _, rfl, (tk8.trans tk9).trans (upT ⟨_, ep⟩), by rw [upd_ne ngp]; exact k9 _ _ ngl (s8 _ _ eg), by rw [upd_ne nDp]; exact k9 _ _ nD.1 (s8 _ _ eD), sp4_put S9.ok S9.kn npl.1 npl.2 (.inr rfl) ep a1 a2 a3 hv S9.m1 S9.m2 S9.m3 hs S9.g3 hg⟩
    · exact if_false_of (decide_eq_false c2) ⟨_, _, _, _, _, rfl, tk, eg, eD, S⟩
  rintro σ H8 ⟨d1, d2, d3, d4, v6, rfl, tk, eg, eD, S⟩
  obtain ⟨v1, v2, v3, v4, ep, a1, a2, a3, a4⟩ := S.ex
  have bo := fun e => bodies_of (d1 := d1) (d2 := d2) (d3 := d3) (d4 := d4) e S.g3 S.g4
  have b1 := Dm.dp a1
  have b2 := Dm.dp a2
  have b3 := Dm.dp a3
  have b4 := Dm.dp a4
  refine ⟨_, rfl, pl, v1, v2, v3, v4, d1, d2, d3, d4, 7, rfl, SqL.of ep, b1, b2, b3, b4, S.m1, S.m2, S.m3, S.m4, bo, fun dv H9 s9 hdv => ?_⟩
  have ep9 := SqL.same s9 (SqL.of (K := K) ep)
  refine ⟨_, rfl, pl, _, 0, _, rfl, rfl, ep9, rfl, _, rfl, pl, _, 1, _, rfl, rfl, ep9, rfl, _, rfl, pl, _, 2, _, rfl, rfl, ep9, rfl, _, rfl, pl, _, 3, _, rfl, rfl, ep9, rfl, fun x dx hx hdx hne => ?_⟩
  have sx : Same H9 (upd (upd H9 dx (.own x)) x (.ins T.c_Program dx [])) := (Same.new hdx _).trans (Same.new (by rw [upd_ne (Ne.symm hne)]; exact hx) _)
  have s8x := s9.trans sx
  refine ⟨x, dx, v1, v2, v3, v4, d1, d2, d3, d4, 7, rfl, upd_same, Dp.same s8x b1, Dp.same s8x b2, Dp.same s8x b3, Dp.same s8x b4, S.m1, S.m2, S.m3, S.m4, bo, fun fn H10 fs s10 => ⟨rfl, ?_⟩, fun pt pd e0 v dd H10 s10 hv hd he => ?_⟩
  · rw [fn] at hdv
    have hdv' : Dp K H9 dv .none := hdv
    cases hdv'
    refine ⟨_, rfl, rfl, _, rfl, if_true_of rfl ?_⟩
    refine ⟨_, rfl, rfl, ?_⟩
    exact q _
  · rw [e0] at hdv
    have hdv' : Dp K H9 dv (.tuple [.str pt, pd]) := hdv
    obtain ⟨b, vr, rfl, hB, hr'⟩ := pair2_at hdv'
    obtain ⟨fl, fdp⟩ := found_ok e0
    have s910 := sx.trans s10
    refine ⟨true, T.xe_InvalidProgram, fun _ ea hea => ?_, lie⟩
    have kl : ((([("path", v), ("part", V.str pt)] : List (Str × V)).lookup ("part" : Str))) = some (.str pt) := by kernel_rfl
    have kl2 : ((([("path", v), ("part", V.str pt)] : List (Str × V)).lookup ("path" : Str))) = some v := by kernel_rfl
    refine ⟨_, rfl, rfl, rfl, dd, _, _, rfl, he, kl, _, rfl, rfl, rfl, dd, _, _, rfl, he, kl2, _, rfl, rfl, dd, _, _, _, true, rfl, he, rfl, fun _ h => h, T.xk_ToldError, _, rfl, rfl, dd, _, _, _, true, rfl, he, rfl, fun _ h => h, T.xk_ValueError, _, rfl, rfl, dd, _, _, _, false, rfl, he, rfl, fun _ h => h, T.xk_InvalidPath, by show 5 ≤ sizeLine; decide, fun t ht => ?_⟩
    have s11 := Same.new ht (.tup [V.str pt, v, .bl true, .bl true, .bl false])
    have f1 : Dp K (upd H10 t (.tup [V.str pt, v, .bl true, .bl true, .bl false])) (.ref t) (foundD pt pd) := .tup (SqT.of upd_same) (.cons (.str _) (.cons (Dp.same s11 hv) (.cons (.bl _) (.cons (.bl _) (.cons (.bl _) .nil)))))
    have hB11 := SqT.same (s910.trans s11) hB
    have hr11 := Dp.same (s910.trans s11) hr'
    generalize upd H10 t (.tup [V.str pt, v, .bl true, .bl true, .bl false]) = H11 at s11 f1 hB11 hr11
    refine ⟨_, rfl, rfl, _, rfl, if_false_of rfl ?_⟩
    refine ⟨_, rfl, _, rfl, b, _, 0, _, rfl, rfl, hB11, rfl, _, rfl, b, _, 1, _, rfl, rfl, hB11, rfl, by show 5 ≤ sizeLine; decide, fun t2 ht2 => ?_⟩
    have s12 := Same.new ht2 (.tup [V.str pt, vr, .bl true, .bl true, .bl false])
    exact eq_same (Dp.same s12 f1) (.tup (SqT.of upd_same) (.cons (.str _) (.cons (Dp.same s12 hr11) (.cons (.bl _) (.cons (.bl _) (.cons (.bl _) .nil)))))) fl fdp (q _)
end
end K01
namespace K01
open PySem PySem.Spec PyProof.Rows L2 Td
/-! ### the paths of rows, as data -/
mutual
def pathsR : Td.Row → List PyData → Nat → List PyData
  | .ite _ _ y n, pb, i => .tuple (pb ++ [.int (i : Nat)]) :: (pathsRs y (pb ++ [.int (i : Nat)] ++ [.int (0 : Nat)]) 0 ++ pathsRs n (pb ++ [.int (i : Nat)] ++ [.int (1 : Nat)]) 0)
  | .rd .., pb, i => [.tuple (pb ++ [.int (i : Nat)])]
  | .put .., pb, i => [.tuple (pb ++ [.int (i : Nat)])]
  | .give .., pb, i => [.tuple (pb ++ [.int (i : Nat)])]
  | .say .., pb, i => [.tuple (pb ++ [.int (i : Nat)])]
  | .wr .., pb, i => [.tuple (pb ++ [.int (i : Nat)])]
def pathsRs : List Td.Row → List PyData → Nat → List PyData
  | [], _, _ => []
  | r :: rs, pb, k => pathsR r pb k ++ pathsRs rs pb (k + 1)
end
theorem pathsRs_append : ∀ (rs ts : List Td.Row) (pb : List PyData) (k : Nat), pathsRs (rs ++ ts) pb k = pathsRs rs pb k ++ pathsRs ts pb (k + rs.length)
  | [], ts, pb, k => by simp [pathsRs]
  | r :: rs, ts, pb, k => by
    rw [List.cons_append]
    simp only [pathsRs, pathsRs_append rs ts pb (k + 1), List.append_assoc, List.length_cons]
    rw [show k + 1 + rs.length = k + (rs.length + 1) by omega]
theorem pathsRs_take {rs : List Td.Row} {i : Nat} {r : Td.Row} (h : rs[i]? = some r) (pb : List PyData) : pathsRs (rs.take (i + 1)) pb 0 = pathsRs (rs.take i) pb 0 ++ pathsR r pb i := by
  have hi : i < rs.length := (List.getElem?_eq_some_iff.mp h).1
  rw [take_more h, pathsRs_append]
  simp only [pathsRs, List.append_nil, List.length_take]
  rw [show 0 + min i rs.length = i by omega]
theorem pathsR_flat {r : Td.Row} (h : isIte r = false) (pb : List PyData) (i : Nat) : pathsR r pb i = [.tuple (pb ++ [.int (i : Nat)])] := by
  cases r with
  | ite => cases h
  | _ => simp only [pathsR]
mutual
theorem pathsR_len : ∀ (r : Td.Row) (pb : List PyData) (i : Nat), (pathsR r pb i).length = Td.cnt r
  | .ite _ _ y n, pb, i => by
    simp only [pathsR, Td.cnt, List.length_cons, List.length_append, pathsRs_len y, pathsRs_len n]
    omega
  | .rd .., pb, i => by simp [pathsR, Td.cnt]
  | .put .., pb, i => by simp [pathsR, Td.cnt]
  | .give .., pb, i => by simp [pathsR, Td.cnt]
  | .say .., pb, i => by simp [pathsR, Td.cnt]
  | .wr .., pb, i => by simp [pathsR, Td.cnt]
theorem pathsRs_len : ∀ (rs : List Td.Row) (pb : List PyData) (k : Nat), (pathsRs rs pb k).length = cnts rs
  | [], pb, k => by simp [pathsRs, cnts]
  | r :: rs, pb, k => by simp only [pathsRs, cnts, List.length_append, pathsR_len r, pathsRs_len rs]
end
def spPathsV (K : PySem.W.Frag) (n : Nat) : Sp := fun vs H Q _ => ∃ (v : V) (b : Addr) (bs : List V) (pb : List PyData) (S : Sc) (dep : Nat) (rs : List Td.Row), vs = [v, .ref b] ∧ Dp K H v (.tuple (rowsD rs)) ∧
  SqT K H b bs ∧ TnAll K H bs pb ∧ bs.length ≤ 2 + 2 * dep ∧ bs ≠ [] ∧ okRs S dep rs ∧ cnts rs ≤ 100 ∧ dep ≤ 4 ∧ 5 ≤ dep + n ∧ ∀ (p : Addr) (xs : List V) H', Same H H' → H p = none → H' p = some (.lst xs) → TnAll K H' xs (pathsRs rs pb 0) → Q (.ref p) H'
section
variable {P : Program} {w : World} {K : PySem.W.Frag} {mg : Str → Option Value} {base : Heap}
theorem ok_pathsV1 (T : Tops w K mg) {n : Nat} (G_paths_of_rows : FnOk P w K mg base CX0 n T.a_paths_of_rows T.d_paths_of_rows ["rows", "base"] (spPathsV K n)) :
    FnOk P w K mg base CX0 (n + 1) T.a_paths_of_rows T.d_paths_of_rows ["rows", "base"] (spPathsV K (n + 1)) := by
  refine T.F_paths_of_rows.ok sc_paths_of_rows (fun vs H Q E h => ?_) (fun cdv A outer s H vs Q E hr h => ?_)
  · obtain ⟨v, b, bs, pb, S, dep, rs, rfl, _⟩ := h
    rfl
  obtain ⟨v, b, bs, pb, S, dep, rs, rfl, hD, hB, hBT, hbl, hb0, ok, hcn, hdep, hn, q⟩ := h
  obtain ⟨a, xs, rfl, hS, hl, hx⟩ := rows_at hD
  refine ⟨_, (pss_cons (ps_set (i := 2) sc_paths_of_rows.nd rfl (Or.inl rfl) (pe_lst pa_nil))
    (pss_cons (ps_for PassesOwn.never rfl (pi_enumT rfl T.z_enumerate (pa_cons (pv 0) pa_nil)) (pg_tup rfl (pgs_cons (pg_name (i := 3) sc_paths_of_rows.nd rfl (Or.inl rfl)) (pgs_cons (pg_name (i := 4) sc_paths_of_rows.nd rfl (Or.inl rfl)) pgs_nil))) (pss_cons (ps_set (i := 5) sc_paths_of_rows.nd rfl (Or.inl rfl) (pe_op op_catA (pv 1) (pe_tup (pa_cons (pv 3) pa_nil))))
    (pss_cons (ps_expr (pe_bm PySem.F.plainAttrs_list PySem.F.slot_list_append PySem.F.type_list_append mt_append (pv 2) (pa_cons (pv 5) pa_nil)))
    (pss_one (ps_if (pt_cmpR op_eq (pe_ix ix_tup (pv 4) pe_int (fun _ _ => rfl)) pe_str (nomark _)) (pss_one (ps_for PassesOwn.never rfl (pi_tup (pe_tup (pa_cons pe_int (pa_cons pe_int pa_nil)))) (pg_name (i := 6) sc_paths_of_rows.nd rfl (Or.inl rfl)) (pss_one (ps_expr (pe_bm PySem.F.plainAttrs_list PySem.F.slot_list_extend PySem.F.type_list_extend mt_extend (pv 2) (pa_cons (pe_call G_paths_of_rows (hr.mono (by omega)) rfl T.m_paths_of_rows T.F_paths_of_rows.kp T.b_paths_of_rows .nil pass0 (pa_cons (pe_ix ix_tup (pv 4) (pe_op op_add pe_int (pv 6)) (fun _ _ => rfl)) (pa_cons (pe_op op_catA (pv 5) (pe_tup (pa_cons (pv 6) pa_nil))) pa_nil))) pa_nil)))))) pss_nil)))))
    (pss_one (ps_ret (pv 2))))), ?_⟩
  refine ⟨by show 0 ≤ sizeLine; decide, fun p hp => ?_⟩
  refine ⟨_, rfl, a, _, rfl, SqT.same (Same.new hp _) hS, for_enumT (K := K) (a := a) (xs := xs) (fun i σ H' => ∃ (v4 v5 v6 v7 : Option V) (ys : List V), σ = [some (.ref a), some (.ref b), some (.ref p), v4, v5, v6, v7] ∧ Same H H' ∧ H' p = some (.lst ys) ∧ TnAll K H' ys (pathsRs (rs.take i) pb 0))
    ⟨none, none, none, none, [], rfl, Same.new hp _, upd_same, by simp only [List.take_zero, pathsRs]; exact .nil⟩ (fun i σ H' _ ⟨_, _, _, _, _, _, hs, _⟩ => SqT.same hs hS) ?_ ?_⟩
  · rintro i x σ H1 t hi ⟨v4, v5, v6, v7, ys, rfl, hs, hy, hyT⟩ ht
    obtain ⟨r, hr2, hDr⟩ := hx i x hi
    have okr := okRs_get ok hr2
    have hcr := cnts_get hr2
    have hyl : ys.length = cnts (rs.take i) := by rw [hyT.length, pathsRs_len]
    have ptk := pathsRs_take hr2 pb
    have s0 := Same.new ht (.tup [.int (i : Nat), x])
    have hs1 : Same H (upd H1 t (.tup [.int (i : Nat), x])) := hs.trans s0
    have hy1 := s0 _ _ hy
    have hyT1 := TnAll.keep (TK.of_same s0) hyT
    refine ⟨t, _, rfl, SqT.of upd_same, rfl, _, _, rfl, _, _, rfl, rfl, ?_⟩
    generalize upd H1 t (.tup [.int (i : Nat), x]) = H2 at hs1 hy1 hyT1
    clear s0
    refine ⟨_, rfl, _, rfl, by show 1 ≤ sizeLine; decide, fun t1 ht1 => ?_⟩
    have s2 := Same.new ht1 (.tup [.int (i : Nat)])
    have hs2 := hs1.trans s2
    refine ⟨b, t1, bs, _, rfl, rfl, SqT.same hs2 hB, SqT.of upd_same, Nat.le_of_lt (small1000 (by show bs.length + 1 ≤ 1000; omega)), fun e => absurd e hb0, fun _ e => (by cases e), fun _ _ pa hpa => ?_⟩
    have s3 := s2.trans (Same.new hpa (.tup (bs ++ [.int (i : Nat)])))
    have hs3 := hs1.trans s3
    have hy3 := s3 _ _ hy1
    have hyT3 := TnAll.keep (TK.of_same s3) hyT1
    have hP : SqT K (upd (upd H2 t1 (.tup [.int (i : Nat)])) pa (.tup (bs ++ [.int (i : Nat)]))) pa (bs ++ [.int (i : Nat)]) := SqT.of upd_same
    show tSeq _ _ _ _ (upd (upd H2 t1 (.tup [.int (i : Nat)])) pa (.tup (bs ++ [.int (i : Nat)])))
    generalize upd (upd H2 t1 (.tup [.int (i : Nat)])) pa (.tup (bs ++ [.int (i : Nat)])) = H3 at hs3 hP hy3 hyT3
    clear s2 s3
    have hpT : TnAll K H3 (bs ++ [.int (i : Nat)]) (pb ++ [.int (i : Nat)]) := TnAll.append (TnAll.keep (TK.of_same hs3) hBT) (TnAll.one (.int _))
    have hyb : ys.length ≤ 100 := by omega
    refine ⟨_, rfl, .inl ⟨rfl, _, SqL.of hy3⟩, _, rfl, p, ys, _, rfl, rfl, hy3, small1000 (by omega), ?_⟩
    have hs4 : Same H (upd H3 p (.lst (ys ++ [.ref pa]))) := Same.own hs3 hp
    have tk4 : TK H3 (upd H3 p (.lst (ys ++ [.ref pa]))) := TK.upd (by rw [hy3]; trivial)
    have hP4 := SqT.tk tk4 hP
    have hpT4 := TnAll.keep tk4 hpT
    have hy4 : upd H3 p (.lst (ys ++ [.ref pa])) p = some (.lst (ys ++ [.ref pa])) := upd_same
    have hT4 : TnAll K (upd H3 p (.lst (ys ++ [.ref pa]))) (ys ++ [.ref pa]) (pathsRs (rs.take i) pb 0 ++ [.tuple (pb ++ [.int (i : Nat)])]) := TnAll.append (TnAll.keep tk4 hyT3) (TnAll.one (.tup hP4 hpT4))
    have hl4 : (ys ++ [V.ref pa]).length = cnts (rs.take i) + 1 := by rw [List.length_append, hyl]; rfl
    generalize upd H3 p (.lst (ys ++ [.ref pa])) = H4 at hs4 hP4 hy4 hT4 hpT4
    generalize ys ++ [V.ref pa] = ys4 at hy4 hl4 hT4
    cases hi2 : isIte r with
    | false =>
      obtain ⟨ar, zs, rfl, hSr, h0⟩ := row_at (Dp.same hs4 hDr)
      refine ⟨_, rfl, ar, _, 0, _, rfl, rfl, hSr, atI_nat (j := 0) h0, rfl, _, rfl, ?_⟩
      exact if_false_of ((tag_if r).trans hi2) ⟨_, _, _, v7, ys4, rfl, hs4, hy4, by rw [ptk, pathsR_flat hi2]; exact hT4⟩
    | true =>
      cases r with
      | ite sl u y n' =>
        obtain ⟨ar, vy, vn, rfl, hSr, hyD, hnD⟩ := ite_at hDr
        unfold okR at okr
        have ecn : Td.cnt (Td.Row.ite sl u y n') = 1 + cnts y + cnts n' := by unfold Td.cnt; rfl
        have epr : pathsR (Td.Row.ite sl u y n') pb i = .tuple (pb ++ [.int (i : Nat)]) :: (pathsRs y (pb ++ [.int (i : Nat)] ++ [.int (0 : Nat)]) 0 ++ pathsRs n' (pb ++ [.int (i : Nat)] ++ [.int (1 : Nat)]) 0) := by simp only [pathsR]
        refine ⟨_, rfl, ar, _, 0, _, rfl, rfl, SqT.same hs4 hSr, rfl, rfl, _, rfl, ?_⟩
        refine if_true_of (by decide +kernel) ?_
        refine ⟨by show 2 ≤ sizeLine; decide, fun tb htb => ?_⟩
        have hs5 := Same.new htb (.tup [.int 0, .int 1])
        have htbS : SqT K (upd H4 tb (.tup [.int 0, .int 1])) tb [.int 0, .int 1] := SqT.of upd_same
        have hP5 := SqT.same hs5 hP4
        have hpT5 := TnAll.keep (TK.of_same hs5) hpT4
        have hT5 := TnAll.keep (TK.of_same hs5) hT4
        have hy5 := hs5 _ _ hy4
        have hs05 := hs4.trans hs5
        generalize upd H4 tb (.tup [.int 0, .int 1]) = H5 at hs5 htbS hP5 hy5 hs05 hpT5 hT5
        refine ⟨tb, rfl, ⟨_, htbS⟩, for_tup (K := K) (a := tb) (xs := [.int 0, .int 1]) (fun j σ H' => ∃ (v7 : Option V) (zs : List V), σ = [some (.ref a), some (.ref b), some (.ref p), some (.int (i : Nat)), some (.ref ar), some (.ref pa), v7] ∧ Same H H' ∧ TK H5 H' ∧ H' p = some (.lst zs) ∧
            TnAll K H' zs ((pathsRs (rs.take i) pb 0 ++ [.tuple (pb ++ [.int (i : Nat)])]) ++ ((if j = 0 then [] else pathsRs y (pb ++ [.int (i : Nat)] ++ [.int (0 : Nat)]) 0) ++ (if j = 2 then pathsRs n' (pb ++ [.int (i : Nat)] ++ [.int (1 : Nat)]) 0 else []))))
          ⟨v7, ys4, rfl, hs05, TK.refl _, hy5, by simpa using hT5⟩ (fun j σ H' _ ⟨_, _, _, _, tk, _⟩ => SqT.tk tk htbS) ?_ ?_⟩
        · rintro j x σ H6 hj ⟨v7, zs, rfl, h06, tk, hy6, hT6⟩
          have D1 : Dp K H6 vy (.tuple (rowsD y)) := Dp.same h06 hyD
          have D2 : Dp K H6 vn (.tuple (rowsD n')) := Dp.same h06 hnD
          have hl6 := hT6.length
          obtain ⟨k, vk, rk, rfl, hk, hDk, okk, hck, hle, hjk⟩ : ∃ (k : Nat) (vk : V) (rk : List Td.Row), x = .int (k : Nat) ∧ atI [V.str "if", .str sl, .str u, vy, vn] (3 + (k : Int)) = some vk ∧ Dp K H6 vk (.tuple (rowsD rk)) ∧ okRs S (dep + 1) rk ∧ cnts rk ≤ 100 ∧ zs.length + cnts rk ≤ 101 ∧
              ((pathsRs (rs.take i) pb 0 ++ [.tuple (pb ++ [.int (i : Nat)])]) ++ ((if j = 0 then [] else pathsRs y (pb ++ [.int (i : Nat)] ++ [.int (0 : Nat)]) 0) ++ (if j = 2 then pathsRs n' (pb ++ [.int (i : Nat)] ++ [.int (1 : Nat)]) 0 else []))) ++ pathsRs rk (pb ++ [.int (i : Nat)] ++ [.int (k : Nat)]) 0 =
                (pathsRs (rs.take i) pb 0 ++ [.tuple (pb ++ [.int (i : Nat)])]) ++ ((if j + 1 = 0 then [] else pathsRs y (pb ++ [.int (i : Nat)] ++ [.int (0 : Nat)]) 0) ++ (if j + 1 = 2 then pathsRs n' (pb ++ [.int (i : Nat)] ++ [.int (1 : Nat)]) 0 else [])) := by
            match j, hj with
            | 0, hj =>
              cases hj
              refine ⟨0, vy, y, rfl, rfl, D1, okr.2.2.2.1, by omega, ?_, by simp⟩
              rw [hl6]
              simp [pathsRs_len]
              omega
            | 1, hj =>
              cases hj
              refine ⟨1, vn, n', rfl, rfl, D2, okr.2.2.2.2, by omega, ?_, by simp⟩
              rw [hl6]
              simp [pathsRs_len]
              omega
            | j + 2, hj => simp at hj
          refine ⟨_, rfl, .inl ⟨rfl, _, SqL.of hy6⟩, ?_⟩
          refine ⟨_, rfl, _, rfl, _, _, rfl, rfl, ar, _, _, _, rfl, rfl, SqT.same h06 hSr, hk, _, rfl, _, rfl, by show 1 ≤ sizeLine; decide, fun t2 ht2 => ?_⟩
          have s62 := Same.new ht2 (.tup [.int (k : Nat)])
          have hP6 := SqT.same s62 (SqT.tk tk hP5)
          refine ⟨pa, t2, _, _, rfl, rfl, hP6, SqT.of upd_same, Nat.le_of_lt (small1000 (by rw [List.length_append]; show bs.length + 1 + 1 ≤ 1000; omega)), fun e => (by simp at e), fun _ e => (by cases e), fun _ _ t3 ht3 => ?_⟩
          have s63 := s62.trans (Same.new ht3 (.tup (bs ++ [.int (i : Nat)] ++ [.int (k : Nat)])))
          have hpT6 : TnAll K (upd (upd H6 t2 (.tup [.int (k : Nat)])) t3 (.tup (bs ++ [.int (i : Nat)] ++ [.int (k : Nat)]))) (bs ++ [.int (i : Nat)] ++ [.int (k : Nat)]) (pb ++ [.int (i : Nat)] ++ [.int (k : Nat)]) := TnAll.append (TnAll.keep (tk.trans (TK.of_same s63)) hpT5) (TnAll.one (.int _))
          refine ⟨vk, t3, _, _, S, dep + 1, rk, rfl, Dp.same s63 hDk, SqT.of upd_same, hpT6, by simp; omega, by simp, okk, hck, by omega, by omega, fun p2 ws H7 s7 hp2 hw hwT => ?_⟩
          have hy7 := s7 _ _ (s63 _ _ hy6)
          have hn2 : p ≠ p2 := ne_of_none (s63 _ _ hy6) hp2
          have hwl : ws.length = cnts rk := by rw [hwT.length, pathsRs_len]
          have tk7 : TK H7 (upd H7 p (.lst (zs ++ ws))) := TK.upd (by rw [hy7]; trivial)
          refine ⟨p, p2, zs, ws, rfl, rfl, hy7, hw, Nat.le_of_lt (small1000 (by omega)), ?_⟩
          refine ⟨_, _, rfl, Same.own ((h06.trans s63).trans s7) hp, ?_, upd_same, ?_⟩
          · exact (tk.trans (TK.of_same (s63.trans s7))).trans tk7
          · rw [← hjk]
            exact TnAll.append (TnAll.keep ((TK.of_same (s63.trans s7)).trans tk7) hT6) (TnAll.keep tk7 hwT)
        · rintro σ H6 ⟨v7, zs, rfl, h06, tk, hy6, hT6⟩
          refine ⟨_, _, _, v7, zs, rfl, h06, hy6, ?_⟩
          rw [ptk, epr]
          simpa using hT6
      | _ => cases hi2
  · rintro σ H1 ⟨v4, v5, v6, v7, ys, rfl, hs, hy, hyT⟩
    rw [hl, List.take_length] at hyT
    exact ⟨_, rfl, q p ys H1 hs hp hy hyT⟩
theorem ok_pathsV (T : Tops w K mg) : ∀ k, FnOk P w K mg base CX0 k T.a_paths_of_rows T.d_paths_of_rows ["rows", "base"] (spPathsV K k)
  | 0 => by
    have no : ∀ vs H Q E, ¬ spPathsV K 0 vs H Q E := fun vs H Q E h => by
      obtain ⟨_, _, _, _, _, dep, _, _, _, _, _, _, _, _, _, h1, h2, _⟩ := h
      omega
    exact ⟨fun vs H Q E h => absurd h (no vs H Q E), fun A outer s H args us vs Q E _ _ _ _ h => absurd h (no vs H Q E)⟩
  | k + 1 => ok_pathsV1 T (ok_pathsV T k)
end
end K01
namespace K01
open PySem PySem.Spec PyProof.Rows L2 Td
/-! ### the paths of all rows of a program, by itself and by the law -/
def pathsP (kd : Str) : List (Str × List Td.Row) → Nat → List PyData
  | [], _ => []
  | p :: r, i => pathsRs p.2 [.str kd, .int (i : Nat)] 0 ++ pathsP kd r (i + 1)
theorem pathsP_append (kd : Str) : ∀ (ps qs : List (Str × List Td.Row)) (i : Nat), pathsP kd (ps ++ qs) i = pathsP kd ps i ++ pathsP kd qs (i + ps.length)
  | [], qs, i => by simp [pathsP]
  | p :: ps, qs, i => by
    rw [List.cons_append]
    simp only [pathsP, pathsP_append kd ps qs (i + 1), List.append_assoc, List.length_cons]
    rw [show i + 1 + ps.length = i + (ps.length + 1) by omega]
theorem pathsP_take {kd : Str} {ps : List (Str × List Td.Row)} {i : Nat} {q : Str × List Td.Row} (h : ps[i]? = some q) : pathsP kd (ps.take (i + 1)) 0 = pathsP kd (ps.take i) 0 ++ pathsRs q.2 [.str kd, .int (i : Nat)] 0 := by
  have hi : i < ps.length := (List.getElem?_eq_some_iff.mp h).1
  rw [take_more h, pathsP_append]
  simp only [pathsP, List.append_nil, List.length_take]
  rw [show 0 + min i ps.length = i by omega]
theorem pathsP_len {kd : Str} : ∀ {ps : List (Str × List Td.Row)} {k : Nat}, (∀ q ∈ ps, cnts q.2 ≤ 16) → (pathsP kd ps k).length ≤ 16 * ps.length
  | [], k, _ => by simp [pathsP]
  | p :: ps, k, h => by
    have h1 := h p (List.mem_cons_self ..)
    have h2 := pathsP_len (kd := kd) (ps := ps) (k := k + 1) (fun q hq => h q (List.mem_cons_of_mem _ hq))
    simp only [pathsP, List.length_append, pathsRs_len, List.length_cons]
    omega
def pathsAll (p : PP) : List PyData := pathsP "derived" p.derived 0 ++ pathsP "effects" p.effects 0
theorem few_rows {p : PP} {m : Nat} (ok : p.Ok m) (hm : m ≤ 16) : (∀ q ∈ p.derived, cnts q.2 ≤ 16) ∧ (∀ q ∈ p.effects, cnts q.2 ≤ 16) :=
  ⟨fun q hq => by have := (okDer_lim ok.der hq).1; omega, fun q hq => by have := (okEff_lim ok.eff hq).1; omega⟩
theorem pathsAll_len {p : PP} {m : Nat} (ok : p.Ok m) (hm : m ≤ 16) : (pathsAll p).length ≤ 160 := by
  obtain ⟨f1, f2⟩ := few_rows ok hm
  have h1 := pathsP_len (kd := "derived") (k := 0) f1
  have h2 := pathsP_len (kd := "effects") (k := 0) f2
  have d6 := ok.d6
  have e4 := ok.e4
  unfold pathsAll
  rw [List.length_append]
  omega
def spRowPaths (K : PySem.W.Frag) (C : Addr) : Sp := fun vs H Q _ => ∃ (pa : Addr) (p : PP) (m : Nat), vs = [.ref pa] ∧ ProgAt K H C pa p ∧ p.Ok m ∧ m ≤ 16 ∧
  ∀ (l : Addr) (xs : List V) H', Same H H' → H l = none → H' l = some (.lst xs) → TnAll K H' xs (pathsAll p) → Q (.ref l) H'
def spLawAll (K : PySem.W.Frag) (n : Nat) : Sp := fun vs H Q _ => ∃ (v : V) (b : Addr) (bs : List V) (pb : List PyData) (S : Sc) (dep : Nat) (rs : List Td.Row), vs = [v, .ref b] ∧ Dp K H v (.tuple (rowsD rs)) ∧
  SqT K H b bs ∧ TnAll K H bs pb ∧ bs.length ≤ 2 + 2 * dep ∧ bs ≠ [] ∧ okRs S dep rs ∧ cnts rs ≤ 100 ∧ dep ≤ 4 ∧ 5 ≤ dep + n ∧ ∀ (p : Addr) (xs : List V) H', Same H H' → H p = none → H' p = some (.lst xs) → TnAll K H' xs (pathsRs rs pb 0) → Q (.ref p) H'
def spLawPaths (K : PySem.W.Frag) : Sp := fun vs H Q _ => ∃ (v : V) (p : PP) (m : Nat), vs = [v] ∧ Tn K H v p.data ∧ p.Ok m ∧ m ≤ 16 ∧
  ∀ (l : Addr) (xs : List V) H', Same H H' → H l = none → H' l = some (.lst xs) → TnAll K H' xs (pathsAll p) → Q (.ref l) H'
section
variable {P : Program} {w : World} {K : PySem.W.Frag} {mg : Str → Option Value} {base : Heap}
theorem ok_row_paths (T : Tops w K mg) (G_paths_of_rows : FnOk P w K mg base CX0 4 T.a_paths_of_rows T.d_paths_of_rows ["rows", "base"] (spPathsV K 4)) :
    FnOk P w K mg base CX0 5 T.a_Program_row_paths T.d_Program_row_paths ["self"] (spRowPaths K T.c_Program) := by
  refine T.F_Program_row_paths.ok sc_Program_row_paths (fun vs H Q E h => ?_) (fun cdv A outer s H vs Q E hr h => ?_)
  · obtain ⟨pa, p, m, rfl, _⟩ := h
    rfl
  obtain ⟨pa, p, m, rfl, hP, ok, hm, q⟩ := h
  obtain ⟨dx, aw, as, vd, ve, ⟨dn, en, e, hdn, hen⟩, h1, h2, h3, h4⟩ := hP.ex
  obtain ⟨ad, xs, rfl, hA, hl, hx⟩ := pairs_at h3
  obtain ⟨ae, ys, rfl, hA2, hl2, hx2⟩ := pairs_at h4
  obtain ⟨f1, f2⟩ := few_rows ok hm
  have d6 := ok.d6
  have e4 := ok.e4
  refine ⟨_, (pss_cons (ps_set (i := 1) sc_Program_row_paths.nd rfl (Or.inl rfl) (pe_lst pa_nil))
    (pss_cons (ps_for PassesOwn.never rfl (pi_tup (pe_tup (pa_cons (pe_tup (pa_cons pe_str (pa_cons (pe_fld (pv 0) rfl) pa_nil))) (pa_cons (pe_tup (pa_cons pe_str (pa_cons (pe_fld (pv 0) rfl) pa_nil))) pa_nil)))) (pg_tup rfl (pgs_cons (pg_name (i := 2) sc_Program_row_paths.nd rfl (Or.inl rfl)) (pgs_cons (pg_name (i := 3) sc_Program_row_paths.nd rfl (Or.inl rfl)) pgs_nil))) (pss_one (ps_for PassesOwn.never rfl (pi_enumT rfl T.z_enumerate (pa_cons (pv 3) pa_nil)) (pg_tup rfl (pgs_cons (pg_name (i := 4) sc_Program_row_paths.nd rfl (Or.inl rfl)) (pgs_cons (pg_tup rfl (pgs_cons (pg_name (i := 5) sc_Program_row_paths.nd rfl (Or.inl rfl)) (pgs_cons (pg_name (i := 6) sc_Program_row_paths.nd rfl (Or.inl rfl)) pgs_nil))) pgs_nil))) (pss_one (ps_expr (pe_bm PySem.F.plainAttrs_list PySem.F.slot_list_extend PySem.F.type_list_extend mt_extend (pv 1) (pa_cons (pe_call G_paths_of_rows (hr.mono (by omega)) rfl T.m_paths_of_rows T.F_paths_of_rows.kp T.b_paths_of_rows .nil pass0 (pa_cons (pv 6) (pa_cons (pe_tup (pa_cons (pv 2) (pa_cons (pv 4) pa_nil))) pa_nil))) pa_nil)))))))
    (pss_one (ps_ret (pv 1))))), ?_⟩
  refine ⟨by show 0 ≤ sizeLine; decide, fun l hl0 => ?_⟩
  have s1 := Same.new hl0 (.lst [])
  have e1 : upd H l (.lst []) l = some (.lst []) := upd_same
  refine ⟨_, rfl, pa, _, dx, _, _, rfl, s1 _ _ e, T.l_Program, T.n_Program_derived, progF_derived .., by show 2 ≤ sizeLine; decide, fun t1 ht1 => ?_⟩
  have s2 := s1.trans (Same.new ht1 (.tup [.str "derived", .ref ad]))
  have e2 := Same.new ht1 (.tup [.str "derived", .ref ad]) _ _ e1
  have g1 : SqT K (upd (upd H l (.lst [])) t1 (.tup [.str "derived", .ref ad])) t1 [.str "derived", .ref ad] := SqT.of upd_same
  generalize upd (upd H l (.lst [])) t1 (.tup [.str "derived", .ref ad]) = H2 at s2 e2 g1
  refine ⟨_, rfl, pa, _, dx, _, _, rfl, s2 _ _ e, T.l_Program, T.n_Program_effects, progF_effects .., by show 2 ≤ sizeLine; decide, fun t2 ht2 => ?_⟩
  have s23 := Same.new ht2 (.tup [.str "effects", .ref ae])
  have s3 := s2.trans s23
  have e3 := s23 _ _ e2
  have g13 := SqT.same s23 g1
  have g2 : SqT K (upd H2 t2 (.tup [.str "effects", .ref ae])) t2 [.str "effects", .ref ae] := SqT.of upd_same
  generalize upd H2 t2 (.tup [.str "effects", .ref ae]) = H3 at s23 s3 e3 g13 g2
  refine ⟨by show 2 ≤ sizeLine; decide, fun t ht => ?_⟩
  have s34 := Same.new ht (.tup [.ref t1, .ref t2])
  have s4 := s3.trans s34
  have e4' := s34 _ _ e3
  have g14 := SqT.same s34 g13
  have g24 := SqT.same s34 g2
  have gt : SqT K (upd H3 t (.tup [.ref t1, .ref t2])) t [.ref t1, .ref t2] := SqT.of upd_same
  generalize upd H3 t (.tup [.ref t1, .ref t2]) = H4 at s34 s4 e4' g14 g24 gt
  obtain ⟨acc, ha0, ha1, ha2⟩ : ∃ acc : Nat → List PyData, acc 0 = [] ∧ acc 1 = pathsP "derived" p.derived 0 ∧ acc 2 = pathsAll p := ⟨fun j => match j with | 0 => [] | 1 => pathsP "derived" p.derived 0 | _ => pathsAll p, rfl, rfl, rfl⟩
  refine ⟨t, rfl, ⟨_, gt⟩, for_tup (K := K) (a := t) (xs := [.ref t1, .ref t2]) (fun j σ H' => ∃ (v2 v3 v4 v5 v6 : Option V) (us : List V), σ = [some (.ref pa), some (.ref l), v2, v3, v4, v5, v6] ∧ Same H H' ∧ TK H4 H' ∧ H' l = some (.lst us) ∧ TnAll K H' us (acc j))
    ⟨none, none, none, none, none, [], rfl, s4, TK.refl _, e4', by rw [ha0]; exact .nil⟩ (fun j σ H' _ ⟨_, _, _, _, _, _, _, _, tk, _⟩ => SqT.tk tk gt) ?_ ?_⟩
  · rintro j x σ H5 hj ⟨v2, v3, v4, v5, v6, us, rfl, h05, tk, hu, huT⟩
    obtain ⟨tj, kd, av, zs, ps, rfl, gj, hZ, zl, hz, pl, e0⟩ : ∃ (tj : Addr) (kd : Str) (av : Addr) (zs : List V) (ps : List (Str × List Td.Row)), x = .ref tj ∧ SqT K H5 tj [.str kd, .ref av] ∧ SqT K H av zs ∧ zs.length = ps.length ∧
        (∀ (i : Nat) (x : V), zs[i]? = some x → ∃ (q : Str × List Td.Row) (b : Addr) (vr : V) (S : Sc), ps[i]? = some q ∧ x = .ref b ∧ SqT K H b [.str q.1, vr] ∧ Tn K H vr (.tuple (rowsD q.2)) ∧ okRs S 1 q.2 ∧ cnts q.2 ≤ 16) ∧ (acc j).length + 16 * ps.length ≤ 200 ∧ acc j ++ pathsP kd ps 0 = acc (j + 1) := by
      match j, hj with
      | 0, hj =>
        cases hj
        refine ⟨t1, "derived", ad, xs, p.derived, rfl, SqT.tk tk g14, hA, hl, fun i x hi => ?_, by rw [ha0]; show 0 + _ ≤ _; omega, by rw [ha0, ha1]; rfl⟩
        obtain ⟨qq, b, vr, hq, ex, hB, hT⟩ := hx i x hi
        exact ⟨qq, b, vr, _, hq, ex, hB, hT, (okDer_get ok.der hq).1, f1 qq (List.mem_of_getElem? hq)⟩
      | 1, hj =>
        cases hj
        have pl1 := pathsP_len (kd := "derived") (k := 0) f1
        refine ⟨t2, "effects", ae, ys, p.effects, rfl, SqT.tk tk g24, hA2, hl2, fun i x hi => ?_, by rw [ha1]; omega, by rw [ha1, ha2]; rfl⟩
        obtain ⟨qq, b, vr, hq, ex, hB, hT⟩ := hx2 i x hi
        exact ⟨qq, b, vr, _, hq, ex, hB, hT, (okEff_get ok.eff hq).1, f2 qq (List.mem_of_getElem? hq)⟩
      | j + 2, hj => simp at hj
    refine ⟨tj, _, rfl, gj, rfl, _, _, rfl, _, _, rfl, rfl, ?_⟩
    refine ⟨_, rfl, av, _, rfl, SqT.same h05 hZ, for_enumT (K := K) (a := av) (xs := zs) (fun i σ H' => ∃ (v4 v5 v6 : Option V) (us : List V), σ = [some (.ref pa), some (.ref l), some (.str kd), some (.ref av), v4, v5, v6] ∧ Same H H' ∧ TK H5 H' ∧ H' l = some (.lst us) ∧ TnAll K H' us (acc j ++ pathsP kd (ps.take i) 0))
      ⟨v4, v5, v6, us, rfl, h05, TK.refl _, hu, by simpa [pathsP] using huT⟩ (fun i σ H' _ ⟨_, _, _, _, _, hs, _⟩ => SqT.same hs hZ) ?_ ?_⟩
    · rintro i x σ H6 t3 hi ⟨v4, v5, v6, us6, rfl, hs, tk6, hu6, hT6⟩ ht3
      obtain ⟨qq, b, vr, S, hq, rfl, hB, hT, okq, hcq⟩ := hz i x hi
      have il : i < ps.length := (List.getElem?_eq_some_iff.mp hq).1
      have s67 := Same.new ht3 (.tup [.int (i : Nat), .ref b])
      have h07 := hs.trans s67
      have tk7 := tk6.trans (TK.of_same s67)
      have hu7 := s67 _ _ hu6
      have hT7 := TnAll.keep (TK.of_same s67) hT6
      have ul : us6.length + 16 ≤ 216 := by
        have p1 := pathsP_len (kd := kd) (ps := ps.take i) (k := 0) (fun q hq => by
          obtain ⟨n, hn⟩ := List.getElem?_of_mem (List.mem_of_mem_take hq)
          have hn2 : n < zs.length := by rw [zl]; exact (List.getElem?_eq_some_iff.mp hn).1
          obtain ⟨q', _, _, _, e', _, _, _, _, c'⟩ := hz n _ (List.getElem?_eq_getElem hn2)
          rw [hn] at e'; cases e'; exact c')
        have p2 := hT6.length
        rw [List.length_append] at p2
        rw [List.length_take] at p1
        omega
      refine ⟨t3, _, rfl, SqT.of upd_same, rfl, _, _, rfl, _, _, rfl, ⟨b, _, rfl, SqT.same h07 hB, rfl, _, _, rfl, _, _, rfl, rfl, ?_⟩⟩
      generalize upd H6 t3 (.tup [.int (i : Nat), .ref b]) = H7 at s67 h07 tk7 hu7 hT7
      refine ⟨rfl, _, rfl, .inl ⟨rfl, _, SqL.of hu7⟩, ?_⟩
      refine ⟨_, rfl, _, rfl, _, rfl, by show 2 ≤ sizeLine; decide, fun tb htb => ?_⟩
      have s78 := Same.new htb (.tup [.str kd, .int (i : Nat)])
      refine ⟨vr, tb, _, [.str kd, .int (i : Nat)], S, 1, qq.2, rfl, (Tn.same (h07.trans s78) hT).dp, SqT.of upd_same, .cons (.str _) (.cons (.int _) .nil), by show 2 ≤ 4; decide, by simp, okq, by omega, by omega, by omega, fun p2 ws H8 s8 hp2 hw hwT => ?_⟩
      have hu8 := s8 _ _ (s78 _ _ hu7)
      have hwl : ws.length = cnts qq.2 := by rw [hwT.length, pathsRs_len]
      have tk8 : TK H8 (upd H8 l (.lst (us6 ++ ws))) := TK.upd (by rw [hu8]; trivial)
      refine ⟨l, p2, us6, ws, rfl, rfl, hu8, hw, Nat.le_of_lt (small1000 (by omega)), ?_⟩
      refine ⟨_, _, _, us6 ++ ws, rfl, Same.own ((h07.trans s78).trans s8) hl0, (tk7.trans (TK.of_same (s78.trans s8))).trans tk8, upd_same, ?_⟩
      rw [pathsP_take hq, ← List.append_assoc]
      exact TnAll.append (TnAll.keep ((TK.of_same (s78.trans s8)).trans tk8) hT7) (TnAll.keep tk8 hwT)
    · rintro σ H6 ⟨v4, v5, v6, us6, rfl, hs, tk6, hu6, hT6⟩
      rw [zl, List.take_length, e0] at hT6
      exact ⟨_, _, _, _, _, us6, rfl, hs, tk.trans tk6, hu6, hT6⟩
  · rintro σ H5 ⟨v2, v3, v4, v5, v6, us, rfl, h05, tk, hu, huT⟩
    have e2' : acc [V.ref t1, V.ref t2].length = pathsAll p := ha2
    rw [e2'] at huT
    exact ⟨_, rfl, q l us H5 h05 hl0 hu huT⟩
theorem ok_law_all1 (T : Tops w K mg) {n : Nat} (G__law_all_paths : FnOk P w K mg base CX0 n T.a__law_all_paths T.d__law_all_paths ["_law_rows_here", "_law_path"] (spLawAll K n)) :
    FnOk P w K mg base CX0 (n + 1) T.a__law_all_paths T.d__law_all_paths ["_law_rows_here", "_law_path"] (spLawAll K (n + 1)) := by
  refine T.F__law_all_paths.ok sc_law_all_paths (fun vs H Q E h => ?_) (fun cdv A outer s H vs Q E hr h => ?_)
  · obtain ⟨v, b, bs, pb, S, dep, rs, rfl, _⟩ := h
    rfl
  obtain ⟨v, b, bs, pb, S, dep, rs, rfl, hD, hB, hBT, hbl, hb0, ok, hcn, hdep, hn, q⟩ := h
  obtain ⟨a, xs, rfl, hS, hl, hx⟩ := rows_at hD
  have lr : rs.length ≤ cnts rs := cnts_len rs
  refine ⟨_, (pss_cons (ps_set (i := 2) sc_law_all_paths.nd rfl (Or.inl rfl) (pe_lst pa_nil))
    (pss_cons (ps_for PassesOwn.never rfl (pi_range1 rfl T.z_range (pa_cons (pe_callB call_len rfl T.z_len PySem.boot_len (pa_cons (pv 0) pa_nil)) pa_nil)) (pg_name (i := 3) sc_law_all_paths.nd rfl (Or.inl rfl)) (pss_cons (ps_expr (pe_bm PySem.F.plainAttrs_list PySem.F.slot_list_append PySem.F.type_list_append mt_append (pv 2) (pa_cons (pe_op op_catA (pv 1) (pe_tup (pa_cons (pv 3) pa_nil))) pa_nil)))
    (pss_one (ps_if (pt_cmpR op_eq (pe_ix ix_tup (pe_ix ix_tup (pv 0) (pv 3) (fun _ _ => rfl)) pe_int (fun _ _ => rfl)) pe_str (nomark _)) (pss_cons (ps_expr (pe_bm PySem.F.plainAttrs_list PySem.F.slot_list_extend PySem.F.type_list_extend mt_extend (pv 2) (pa_cons (pe_call G__law_all_paths (hr.mono (by omega)) rfl T.m__law_all_paths T.F__law_all_paths.kp T.b__law_all_paths .nil pass0 (pa_cons (pe_ix ix_tup (pe_ix ix_tup (pv 0) (pv 3) (fun _ _ => rfl)) pe_int (fun _ _ => rfl)) (pa_cons (pe_op op_catA (pv 1) (pe_tup (pa_cons (pv 3) (pa_cons pe_int pa_nil)))) pa_nil))) pa_nil)))
    (pss_one (ps_expr (pe_bm PySem.F.plainAttrs_list PySem.F.slot_list_extend PySem.F.type_list_extend mt_extend (pv 2) (pa_cons (pe_call G__law_all_paths (hr.mono (by omega)) rfl T.m__law_all_paths T.F__law_all_paths.kp T.b__law_all_paths .nil pass0 (pa_cons (pe_ix ix_tup (pe_ix ix_tup (pv 0) (pv 3) (fun _ _ => rfl)) pe_int (fun _ _ => rfl)) (pa_cons (pe_op op_catA (pv 1) (pe_tup (pa_cons (pv 3) (pa_cons pe_int pa_nil)))) pa_nil))) pa_nil))))) pss_nil))))
    (pss_one (ps_ret (pv 2))))), ?_⟩
  refine ⟨by show 0 ≤ sizeLine; decide, fun p hp => ?_⟩
  refine ⟨_, rfl, .ref a, _, rfl, .inr ⟨_, SqT.same (Same.new hp _) hS, rfl⟩, ((xs.length : Nat) : Int), rfl, by omega, by omega, for_range (lo := 0) (n := ((xs.length : Nat) : Int).toNat)
    (fun i σ H' => ∃ (v3 : Option V) (ys : List V), σ = [some (.ref a), some (.ref b), some (.ref p), v3] ∧ Same H H' ∧ H' p = some (.lst ys) ∧ TnAll K H' ys (pathsRs (rs.take i) pb 0))
    ⟨none, [], rfl, Same.new hp _, upd_same, by simp only [List.take_zero, pathsRs]; exact .nil⟩ ?_ ?_⟩
  · rintro i σ H1 hi ⟨v3, ys, rfl, hs, hy, hyT⟩
    rw [Int.toNat_natCast] at hi
    rw [show (0 : Int) + (i : Nat) = (i : Nat) by omega]
    have hix : xs[i]? = some xs[i] := List.getElem?_eq_getElem hi
    obtain ⟨r, hr2, hDr⟩ := hx i _ hix
    have okr := okRs_get ok hr2
    have hcr := cnts_get hr2
    have hyl : ys.length = cnts (rs.take i) := by rw [hyT.length, pathsRs_len]
    have ptk := pathsRs_take hr2 pb
    refine ⟨_, rfl, .inl ⟨rfl, _, SqL.of hy⟩, ?_⟩
    refine ⟨_, rfl, _, rfl, by show 1 ≤ sizeLine; decide, fun t1 ht1 => ?_⟩
    have s12 := Same.new ht1 (.tup [.int (i : Nat)])
    refine cat_all (SqT.same (hs.trans s12) hB) (SqT.of upd_same) (Nat.le_of_lt (small1000 (by show bs.length + 1 ≤ 1000; omega))) (fun pa H3 s3 hP => ?_)
    have s13 := s12.trans s3
    have hs3 := hs.trans s13
    have hy3 := s13 _ _ hy
    have hyT3 := TnAll.keep (TK.of_same s13) hyT
    have hpT : TnAll K H3 (bs ++ [.int (i : Nat)]) (pb ++ [.int (i : Nat)]) := TnAll.append (TnAll.keep (TK.of_same hs3) hBT) (TnAll.one (.int _))
    refine ⟨p, ys, _, rfl, rfl, hy3, small1000 (by omega), ?_⟩
    have hs4 : Same H (upd H3 p (.lst (ys ++ [.ref pa]))) := Same.own hs3 hp
    have tk4 : TK H3 (upd H3 p (.lst (ys ++ [.ref pa]))) := TK.upd (by rw [hy3]; trivial)
    have hy4 : upd H3 p (.lst (ys ++ [.ref pa])) p = some (.lst (ys ++ [.ref pa])) := upd_same
    have hT4 : TnAll K (upd H3 p (.lst (ys ++ [.ref pa]))) (ys ++ [.ref pa]) (pathsRs (rs.take i) pb 0 ++ [.tuple (pb ++ [.int (i : Nat)])]) := TnAll.append (TnAll.keep tk4 hyT3) (TnAll.one (.tup (SqT.tk tk4 hP) (TnAll.keep tk4 hpT)))
    have hl4 : (ys ++ [V.ref pa]).length = cnts (rs.take i) + 1 := by rw [List.length_append, hyl]; rfl
    generalize upd H3 p (.lst (ys ++ [.ref pa])) = H4 at hs4 hy4 hT4
    generalize ys ++ [V.ref pa] = ys4 at hy4 hl4 hT4
    cases hi2 : isIte r with
    | false =>
      obtain ⟨ar, zs, exr, hSr, h0⟩ := row_at (Dp.same hs4 hDr)
      rw [exr] at hix
      refine ⟨_, rfl, _, rfl, a, _, (i : Nat), .ref ar, rfl, rfl, SqT.same hs4 hS, atI_nat hix, ar, _, 0, _, rfl, rfl, hSr, atI_nat (j := 0) h0, rfl, _, rfl, ?_⟩
      exact if_false_of ((tag_if r).trans hi2) ⟨_, ys4, rfl, hs4, hy4, by rw [ptk, pathsR_flat hi2]; exact hT4⟩
    | true =>
      cases r with
      | ite sl u y n' =>
        obtain ⟨ar, vy, vn, exr, hSr, hyD, hnD⟩ := ite_at hDr
        rw [exr] at hix
        unfold okR at okr
        have ecn : Td.cnt (Td.Row.ite sl u y n') = 1 + cnts y + cnts n' := by unfold Td.cnt; rfl
        have epr : pathsR (Td.Row.ite sl u y n') pb i = .tuple (pb ++ [.int (i : Nat)]) :: (pathsRs y (pb ++ [.int (i : Nat)] ++ [.int (0 : Nat)]) 0 ++ pathsRs n' (pb ++ [.int (i : Nat)] ++ [.int (1 : Nat)]) 0) := by simp only [pathsR]
        refine ⟨_, rfl, _, rfl, a, _, (i : Nat), .ref ar, rfl, rfl, SqT.same hs4 hS, atI_nat hix, ar, _, 0, _, rfl, rfl, SqT.same hs4 hSr, rfl, rfl, _, rfl, ?_⟩
        refine if_true_of (by decide +kernel) ?_
        refine ⟨_, rfl, .inl ⟨rfl, _, SqL.of hy4⟩, ?_⟩
        refine ⟨_, rfl, _, rfl, a, _, (i : Nat), .ref ar, rfl, rfl, SqT.same hs4 hS, atI_nat hix, ar, _, 3, _, rfl, rfl, SqT.same hs4 hSr, rfl, _, rfl, _, rfl, by show 2 ≤ sizeLine; decide, fun t2 ht2 => ?_⟩
        have s45 := Same.new ht2 (.tup [.int (i : Nat), .int 0])
        refine cat_all (SqT.same (hs4.trans s45) hB) (SqT.of upd_same) (Nat.le_of_lt (small1000 (by show bs.length + 2 ≤ 1000; omega))) (fun pb1 H6 s6 hP6 => ?_)
        have s46 := s45.trans s6
        have hs6 := hs4.trans s46
        refine ⟨vy, pb1, _, pb ++ [.int (i : Nat)] ++ [.int (0 : Nat)], S, dep + 1, y, rfl, Dp.same hs6 hyD, hP6, ?_, by simp; omega, by simp, okr.2.2.2.1, by omega, by omega, by omega, fun p2 ws H7 s7 hp2 hw hwT => ?_⟩
        · rw [List.append_assoc]
          exact TnAll.append (TnAll.keep (TK.of_same hs6) hBT) (.cons (.int _) (.cons (.int _) .nil))
        have hy7 := s7 _ _ (s46 _ _ hy4)
        have hwl : ws.length = cnts y := by rw [hwT.length, pathsRs_len]
        have tk7 : TK H7 (upd H7 p (.lst (ys4 ++ ws))) := TK.upd (by rw [hy7]; trivial)
        refine ⟨p, p2, ys4, ws, rfl, rfl, hy7, hw, Nat.le_of_lt (small1000 (by omega)), ?_⟩
        have hs8 : Same H (upd H7 p (.lst (ys4 ++ ws))) := Same.own (hs6.trans s7) hp
        have hy8 : upd H7 p (.lst (ys4 ++ ws)) p = some (.lst (ys4 ++ ws)) := upd_same
        have hT8 := TnAll.append (TnAll.keep ((TK.of_same (s46.trans s7)).trans tk7) hT4) (TnAll.keep tk7 hwT)
        have hl8 : (ys4 ++ ws).length = cnts (rs.take i) + 1 + cnts y := by rw [List.length_append, hl4, hwl]
        generalize upd H7 p (.lst (ys4 ++ ws)) = H8 at hs8 hy8 hT8
        generalize ys4 ++ ws = ys8 at hy8 hT8 hl8
        refine ⟨_, rfl, .inl ⟨rfl, _, SqL.of hy8⟩, ?_⟩
        refine ⟨_, rfl, _, rfl, a, _, (i : Nat), .ref ar, rfl, rfl, SqT.same hs8 hS, atI_nat hix, ar, _, 4, _, rfl, rfl, SqT.same hs8 hSr, rfl, _, rfl, _, rfl, by show 2 ≤ sizeLine; decide, fun t3 ht3 => ?_⟩
        have s89 := Same.new ht3 (.tup [.int (i : Nat), .int 1])
        refine cat_all (SqT.same (hs8.trans s89) hB) (SqT.of upd_same) (Nat.le_of_lt (small1000 (by show bs.length + 2 ≤ 1000; omega))) (fun pb2 H10 s10 hP10 => ?_)
        have s810 := s89.trans s10
        have hs10 := hs8.trans s810
        refine ⟨vn, pb2, _, pb ++ [.int (i : Nat)] ++ [.int (1 : Nat)], S, dep + 1, n', rfl, Dp.same hs10 hnD, hP10, ?_, by simp; omega, by simp, okr.2.2.2.2, by omega, by omega, by omega, fun p3 ws3 H11 s11 hp3 hw3 hwT3 => ?_⟩
        · rw [List.append_assoc]
          exact TnAll.append (TnAll.keep (TK.of_same hs10) hBT) (.cons (.int _) (.cons (.int _) .nil))
        have hy11 := s11 _ _ (s810 _ _ hy8)
        have hwl3 : ws3.length = cnts n' := by rw [hwT3.length, pathsRs_len]
        have tk11 : TK H11 (upd H11 p (.lst (ys8 ++ ws3))) := TK.upd (by rw [hy11]; trivial)
        refine ⟨p, p3, ys8, ws3, rfl, rfl, hy11, hw3, Nat.le_of_lt (small1000 (by omega)), ?_⟩
        refine ⟨_, ys8 ++ ws3, rfl, Same.own (hs10.trans s11) hp, upd_same, ?_⟩
        rw [ptk, epr]
        have := TnAll.append (TnAll.keep ((TK.of_same (s810.trans s11)).trans tk11) hT8) (TnAll.keep tk11 hwT3)
        simpa using this
      | _ => cases hi2
  · rintro σ H1 ⟨v3, ys, rfl, hs, hy, hyT⟩
    rw [Int.toNat_natCast, hl, List.take_length] at hyT
    exact ⟨_, rfl, q p ys H1 hs hp hy hyT⟩
theorem ok_law_all (T : Tops w K mg) : ∀ k, FnOk P w K mg base CX0 k T.a__law_all_paths T.d__law_all_paths ["_law_rows_here", "_law_path"] (spLawAll K k)
  | 0 => by
    have no : ∀ vs H Q E, ¬ spLawAll K 0 vs H Q E := fun vs H Q E h => by
      obtain ⟨_, _, _, _, _, dep, _, _, _, _, _, _, _, _, _, h1, h2, _⟩ := h
      omega
    exact ⟨fun vs H Q E h => absurd h (no vs H Q E), fun A outer s H args us vs Q E _ _ _ _ h => absurd h (no vs H Q E)⟩
  | k + 1 => ok_law_all1 T (ok_law_all T k)
theorem ok_law_paths (T : Tops w K mg) (G__law_all_paths : FnOk P w K mg base CX0 4 T.a__law_all_paths T.d__law_all_paths ["_law_rows_here", "_law_path"] (spLawAll K 4)) :
    FnOk P w K mg base CX0 5 T.a__law_paths T.d__law_paths ["_law_parts_here"] (spLawPaths K) := by
  refine T.F__law_paths.ok sc_law_paths (fun vs H Q E h => ?_) (fun cdv A outer s H vs Q E hr h => ?_)
  · obtain ⟨v, p, m, rfl, _⟩ := h
    rfl
  obtain ⟨v, p, m, rfl, hD, ok, hm, q⟩ := h
  obtain ⟨pa, aw, as, vd, ve, rfl, hP, h1, h2, h3, h4⟩ := parts_at hD
  obtain ⟨ad, xs, rfl, hA, hl, hx⟩ := pairs_at h3
  obtain ⟨ae, ys, rfl, hA2, hl2, hx2⟩ := pairs_at h4
  obtain ⟨f1, f2⟩ := few_rows ok hm
  have d6 := ok.d6
  have e4 := ok.e4
  refine ⟨_, (pss_cons (ps_set (i := 1) sc_law_paths.nd rfl (Or.inl rfl) (pe_lst pa_nil))
    (pss_cons (ps_for PassesOwn.never rfl (pi_range1 rfl T.z_range (pa_cons (pe_callB call_len rfl T.z_len PySem.boot_len (pa_cons (pe_ix ix_tup (pv 0) pe_int (fun _ _ => rfl)) pa_nil)) pa_nil)) (pg_name (i := 2) sc_law_paths.nd rfl (Or.inl rfl)) (pss_one (ps_expr (pe_bm PySem.F.plainAttrs_list PySem.F.slot_list_extend PySem.F.type_list_extend mt_extend (pv 1) (pa_cons (pe_call G__law_all_paths (hr.mono (by omega)) rfl T.m__law_all_paths T.F__law_all_paths.kp T.b__law_all_paths .nil pass0 (pa_cons (pe_ix ix_tup (pe_ix ix_tup (pe_ix ix_tup (pv 0) pe_int (fun _ _ => rfl)) (pv 2) (fun _ _ => rfl)) pe_int (fun _ _ => rfl)) (pa_cons (pe_tup (pa_cons pe_str (pa_cons (pv 2) pa_nil))) pa_nil))) pa_nil)))))
    (pss_cons (ps_for PassesOwn.never rfl (pi_range1 rfl T.z_range (pa_cons (pe_callB call_len rfl T.z_len PySem.boot_len (pa_cons (pe_ix ix_tup (pv 0) pe_int (fun _ _ => rfl)) pa_nil)) pa_nil)) (pg_name (i := 2) sc_law_paths.nd rfl (Or.inl rfl)) (pss_one (ps_expr (pe_bm PySem.F.plainAttrs_list PySem.F.slot_list_extend PySem.F.type_list_extend mt_extend (pv 1) (pa_cons (pe_call G__law_all_paths (hr.mono (by omega)) rfl T.m__law_all_paths T.F__law_all_paths.kp T.b__law_all_paths .nil pass0 (pa_cons (pe_ix ix_tup (pe_ix ix_tup (pe_ix ix_tup (pv 0) pe_int (fun _ _ => rfl)) (pv 2) (fun _ _ => rfl)) pe_int (fun _ _ => rfl)) (pa_cons (pe_tup (pa_cons pe_str (pa_cons (pv 2) pa_nil))) pa_nil))) pa_nil)))))
    (pss_one (ps_ret (pv 1)))))), ?_⟩
  refine ⟨by show 0 ≤ sizeLine; decide, fun l hl0 => ?_⟩
  have s1 := Same.new hl0 (.lst [])
  refine ⟨_, rfl, pa, _, 2, _, rfl, rfl, SqT.same s1 hP, rfl, .ref ad, _, rfl, .inr ⟨_, SqT.same s1 hA, rfl⟩, ((xs.length : Nat) : Int), rfl, by omega, by omega, for_range (lo := 0) (n := ((xs.length : Nat) : Int).toNat)
    (fun i σ H' => ∃ (v2 : Option V) (us : List V), σ = [some (.ref pa), some (.ref l), v2] ∧ Same H H' ∧ H' l = some (.lst us) ∧ TnAll K H' us (pathsP "derived" (p.derived.take i) 0))
    ⟨none, [], rfl, s1, upd_same, by simp only [List.take_zero, pathsP]; exact .nil⟩ ?_ ?_⟩
  · rintro i σ H1 hi ⟨v2, us, rfl, hs, hu, huT⟩
    rw [Int.toNat_natCast] at hi
    rw [show (0 : Int) + (i : Nat) = (i : Nat) by omega]
    have hix : xs[i]? = some xs[i] := List.getElem?_eq_getElem hi
    obtain ⟨qq, b, vr, hq, ex, hB, hT⟩ := hx i _ hix
    rw [ex] at hix
    have p1 := pathsP_len (kd := "derived") (ps := p.derived.take i) (k := 0) (fun q hq => f1 q (List.mem_of_mem_take hq))
    have p2 := huT.length
    rw [List.length_take] at p1
    refine ⟨_, rfl, .inl ⟨rfl, _, SqL.of hu⟩, ?_⟩
    refine ⟨_, rfl, pa, _, 2, _, rfl, rfl, SqT.same hs hP, rfl, _, rfl, ad, _, (i : Nat), .ref b, rfl, rfl, SqT.same hs hA, atI_nat hix, b, _, 1, _, rfl, rfl, SqT.same hs hB, rfl, _, rfl, by show 2 ≤ sizeLine; decide, fun tb htb => ?_⟩
    have s12 := Same.new htb (.tup [.str "derived", .int (i : Nat)])
    have hcq := f1 qq (List.mem_of_getElem? hq)
    refine ⟨vr, tb, _, [.str "derived", .int (i : Nat)], _, 1, qq.2, rfl, (Tn.same (hs.trans s12) hT).dp, SqT.of upd_same, .cons (.str _) (.cons (.int _) .nil), by show 2 ≤ 4; decide, by simp, (okDer_get ok.der hq).1, by omega, by omega, by omega, fun p2 ws H3 s3 hp2 hw hwT => ?_⟩
    have hu3 := s3 _ _ (s12 _ _ hu)
    have hwl : ws.length = cnts qq.2 := by rw [hwT.length, pathsRs_len]
    have tk3 : TK H3 (upd H3 l (.lst (us ++ ws))) := TK.upd (by rw [hu3]; trivial)
    refine ⟨l, p2, us, ws, rfl, rfl, hu3, hw, Nat.le_of_lt (small1000 (by omega)), ?_⟩
    refine ⟨_, us ++ ws, rfl, Same.own ((hs.trans s12).trans s3) hl0, upd_same, ?_⟩
    rw [pathsP_take hq]
    exact TnAll.append (TnAll.keep ((TK.of_same (s12.trans s3)).trans tk3) huT) (TnAll.keep tk3 hwT)
  · rintro σ H1 ⟨v2, us, rfl, hs, hu, huT⟩
    rw [Int.toNat_natCast, hl, List.take_length] at huT
    have pd1 := pathsP_len (kd := "derived") (k := 0) f1
    refine ⟨_, rfl, pa, _, 3, _, rfl, rfl, SqT.same hs hP, rfl, .ref ae, _, rfl, .inr ⟨_, SqT.same hs hA2, rfl⟩, ((ys.length : Nat) : Int), rfl, by omega, by omega, for_range (lo := 0) (n := ((ys.length : Nat) : Int).toNat)
      (fun i σ H' => ∃ (v2 : Option V) (us : List V), σ = [some (.ref pa), some (.ref l), v2] ∧ Same H H' ∧ H' l = some (.lst us) ∧ TnAll K H' us (pathsP "derived" p.derived 0 ++ pathsP "effects" (p.effects.take i) 0))
      ⟨v2, us, rfl, hs, hu, by simpa only [List.take_zero, pathsP, List.append_nil] using huT⟩ ?_ ?_⟩
    · rintro i σ H1 hi ⟨v2, us, rfl, hs, hu, huT⟩
      rw [Int.toNat_natCast] at hi
      rw [show (0 : Int) + (i : Nat) = (i : Nat) by omega]
      have hix : ys[i]? = some ys[i] := List.getElem?_eq_getElem hi
      obtain ⟨qq, b, vr, hq, ex, hB, hT⟩ := hx2 i _ hix
      rw [ex] at hix
      have p1 := pathsP_len (kd := "effects") (ps := p.effects.take i) (k := 0) (fun q hq => f2 q (List.mem_of_mem_take hq))
      have p2 := huT.length
      rw [List.length_append] at p2
      rw [List.length_take] at p1
      refine ⟨_, rfl, .inl ⟨rfl, _, SqL.of hu⟩, ?_⟩
      refine ⟨_, rfl, pa, _, 3, _, rfl, rfl, SqT.same hs hP, rfl, _, rfl, ae, _, (i : Nat), .ref b, rfl, rfl, SqT.same hs hA2, atI_nat hix, b, _, 1, _, rfl, rfl, SqT.same hs hB, rfl, _, rfl, by show 2 ≤ sizeLine; decide, fun tb htb => ?_⟩
      have s12 := Same.new htb (.tup [.str "effects", .int (i : Nat)])
      have hcq := f2 qq (List.mem_of_getElem? hq)
      refine ⟨vr, tb, _, [.str "effects", .int (i : Nat)], _, 1, qq.2, rfl, (Tn.same (hs.trans s12) hT).dp, SqT.of upd_same, .cons (.str _) (.cons (.int _) .nil), by show 2 ≤ 4; decide, by simp, (okEff_get ok.eff hq).1, by omega, by omega, by omega, fun p2 ws H3 s3 hp2 hw hwT => ?_⟩
      have hu3 := s3 _ _ (s12 _ _ hu)
      have hwl : ws.length = cnts qq.2 := by rw [hwT.length, pathsRs_len]
      have tk3 : TK H3 (upd H3 l (.lst (us ++ ws))) := TK.upd (by rw [hu3]; trivial)
      refine ⟨l, p2, us, ws, rfl, rfl, hu3, hw, Nat.le_of_lt (small1000 (by omega)), ?_⟩
      refine ⟨_, us ++ ws, rfl, Same.own ((hs.trans s12).trans s3) hl0, upd_same, ?_⟩
      rw [pathsP_take hq, ← List.append_assoc]
      exact TnAll.append (TnAll.keep ((TK.of_same (s12.trans s3)).trans tk3) huT) (TnAll.keep tk3 hwT)
    · rintro σ H1 ⟨v2, us, rfl, hs, hu, huT⟩
      rw [Int.toNat_natCast, hl2, List.take_length] at huT
      exact ⟨_, rfl, q l us H1 hs hl0 hu huT⟩
end
end K01
namespace K01
open PySem PySem.Spec PyProof.Rows L2 Td
/-! ### rows and parts as data that can be laid and held against each other -/
structure ScOk (S : Sc) : Prop where
  w : ∀ z ∈ S.words, isNm z = true
  s : ∀ z ∈ S.sources, isNm z = true
  r : ∀ z ∈ S.readable, isNm z = true
theorem lay_str {z : Str} (h : isNm z = true) : (PyData.str z).canLay0 = true ∧ (PyData.str z).depth ≤ 1 := ⟨by simp only [PyData.canLay0, nm_ok h], by simp [PyData.depth]⟩
theorem lay_tup {ds : List PyData} {n : Nat} (h : ∀ x ∈ ds, x.canLay0 = true ∧ x.depth ≤ n) : (PyData.tuple ds).canLay0 = true ∧ (PyData.tuple ds).depth ≤ n + 1 := by
  obtain ⟨h1, h2⟩ := sm_all ds h
  exact ⟨by simp only [PyData.canLay0, h1], by simp only [PyData.depth]; omega⟩
theorem lay_le {d : PyData} {m n : Nat} (h : d.canLay0 = true ∧ d.depth ≤ m) (k : m ≤ n) : d.canLay0 = true ∧ d.depth ≤ n := ⟨h.1, by omega⟩
theorem lay_lit {z : Str} (h : PyData.strOk z = true) : (PyData.str z).canLay0 = true ∧ (PyData.str z).depth ≤ 1 := ⟨by simp only [PyData.canLay0, h], by simp [PyData.depth]⟩
mutual
theorem rowD_lay {S : Sc} (so : ScOk S) : ∀ (r : Td.Row) (dep : Nat), okR S dep r → (rowD r).canLay0 = true ∧ (rowD r).depth ≤ 2 + 2 * (5 - dep)
  | .rd pk c s, dep, h => by
    unfold okR at h
    unfold rowD
    refine lay_le (m := 2) (lay_tup (n := 1) fun x hx => ?_) (by omega)
    simp only [List.mem_cons, List.not_mem_nil, or_false] at hx
    rcases hx with rfl | rfl | rfl
    · cases pk <;> exact lay_lit (by decide +kernel)
    · exact lay_str (so.r _ h.2.1)
    · exact lay_str h.2.2
  | .put s w, dep, h => by
    unfold okR at h
    unfold rowD
    refine lay_le (m := 2) (lay_tup (n := 1) fun x hx => ?_) (by omega)
    simp only [List.mem_cons, List.not_mem_nil, or_false] at hx
    rcases hx with rfl | rfl | rfl
    · exact lay_lit (by decide +kernel)
    · exact lay_str h.1
    · exact lay_str (so.w _ h.2)
  | .give s, dep, h => by
    unfold okR at h
    unfold rowD
    refine lay_le (m := 2) (lay_tup (n := 1) fun x hx => ?_) (by omega)
    simp only [List.mem_cons, List.not_mem_nil, or_false] at hx
    rcases hx with rfl | rfl
    · exact lay_lit (by decide +kernel)
    · exact lay_str h.2
  | .say s, dep, h => by
    unfold okR at h
    unfold rowD
    refine lay_le (m := 2) (lay_tup (n := 1) fun x hx => ?_) (by omega)
    simp only [List.mem_cons, List.not_mem_nil, or_false] at hx
    rcases hx with rfl | rfl
    · exact lay_lit (by decide +kernel)
    · exact lay_str h.2
  | .wr c s, dep, h => by
    unfold okR at h
    unfold rowD
    refine lay_le (m := 2) (lay_tup (n := 1) fun x hx => ?_) (by omega)
    simp only [List.mem_cons, List.not_mem_nil, or_false] at hx
    rcases hx with rfl | rfl | rfl
    · exact lay_lit (by decide +kernel)
    · exact lay_str (so.s _ h.2.1)
    · exact lay_str h.2.2
  | .ite s w y n, dep, h => by
    unfold okR at h
    unfold rowD
    have hy := rowsD_lay so y (dep + 1) h.2.2.2.1
    have hn := rowsD_lay so n (dep + 1) h.2.2.2.2
    have hd := h.1
    refine lay_le (lay_tup (n := 1 + 2 * (5 - dep)) fun x hx => ?_) (by omega)
    simp only [List.mem_cons, List.not_mem_nil, or_false] at hx
    rcases hx with rfl | rfl | rfl | rfl | rfl
    · exact lay_le (lay_lit (by decide +kernel)) (by omega)
    · exact lay_le (lay_str h.2.1) (by omega)
    · exact lay_le (lay_str (so.w _ h.2.2.1)) (by omega)
    · exact ⟨by simp only [PyData.canLay0, hy.1], by simp only [PyData.depth]; omega⟩
    · exact ⟨by simp only [PyData.canLay0, hn.1], by simp only [PyData.depth]; omega⟩
theorem rowsD_lay {S : Sc} (so : ScOk S) : ∀ (rs : List Td.Row) (dep : Nat), okRs S dep rs → PyData.canLayAll0 (rowsD rs) = true ∧ PyData.depthAll (rowsD rs) ≤ 2 + 2 * (5 - dep)
  | [], dep, _ => by unfold rowsD; exact ⟨rfl, by simp [PyData.depthAll]⟩
  | r :: rs, dep, h => by
    unfold okRs at h
    have h1 := rowD_lay so r dep h.1
    have h2 := rowsD_lay so rs dep h.2
    unfold rowsD
    refine ⟨by simp only [PyData.canLayAll0, h1.1, h2.1]; rfl, ?_⟩
    have := h1.2
    have := h2.2
    simp only [PyData.depthAll]
    omega
end
theorem body_lay {S : Sc} (so : ScOk S) {rs : List Td.Row} (h : okRs S 1 rs) : (PyData.tuple (rowsD rs)).canLay0 = true ∧ (PyData.tuple (rowsD rs)).depth ≤ 20 := by
  have := rowsD_lay so rs 1 h
  exact ⟨by simp only [PyData.canLay0, this.1], by simp only [PyData.depth]; omega⟩
theorem pairs_lay {ps : List (Str × List Td.Row)} (h : ∀ q ∈ ps, isNm q.1 = true ∧ (PyData.tuple (rowsD q.2)).canLay0 = true ∧ (PyData.tuple (rowsD q.2)).depth ≤ 20) : (pairsD ps).canLay0 = true ∧ (pairsD ps).depth ≤ 22 := by
  refine lay_tup (n := 21) fun x hx => ?_
  obtain ⟨q, hq, rfl⟩ := List.mem_map.mp hx
  obtain ⟨h1, h2, h3⟩ := h q hq
  refine lay_tup (n := 20) fun y hy => ?_
  simp only [List.mem_cons, List.not_mem_nil, or_false] at hy
  rcases hy with rfl | rfl
  · exact lay_le (lay_str h1) (by omega)
  · exact ⟨h2, h3⟩
theorem strs_layD {zs : List Str} (h : ∀ z ∈ zs, isNm z = true) : (strsD zs).canLay0 = true ∧ (strsD zs).depth ≤ 2 := by
  refine lay_tup (n := 1) fun x hx => ?_
  obtain ⟨z, hz, rfl⟩ := List.mem_map.mp hx
  exact lay_str (h z hz)
section
variable {p : PP} {m : Nat}
theorem Ok_words (ok : p.Ok m) : ∀ z ∈ p.words, isNm z = true := ok.wn.good
theorem Ok_sources (ok : p.Ok m) : ∀ z ∈ p.sources, isNm z = true := fun z hz => ok.nn.good z (List.mem_append_left _ (List.mem_append_left _ hz))
theorem Ok_der (ok : p.Ok m) : ∀ q ∈ p.derived, isNm q.1 = true := fun q hq => ok.nn.good _ (List.mem_append_left _ (List.mem_append_right _ (List.mem_map.mpr ⟨q, hq, rfl⟩)))
theorem Ok_eff (ok : p.Ok m) : ∀ q ∈ p.effects, isNm q.1 = true := fun q hq => ok.nn.good _ (List.mem_append_right _ (List.mem_map.mpr ⟨q, hq, rfl⟩))
theorem Ok_cells (ok : p.Ok m) : ∀ z ∈ p.cells, isNm z = true := fun z hz => ok.nn.good z (List.mem_append_left _ hz)
theorem Ok_derBody (ok : p.Ok m) : ∀ q ∈ p.derived, (PyData.tuple (rowsD q.2)).canLay0 = true ∧ (PyData.tuple (rowsD q.2)).depth ≤ 20 := fun q hq => by
  obtain ⟨i, hi⟩ := List.getElem?_of_mem hq
  refine body_lay ⟨Ok_words ok, Ok_sources ok, fun z hz => ?_⟩ (okDer_get ok.der hi).1
  rcases List.mem_append.mp hz with h | h
  · exact Ok_sources ok z h
  · obtain ⟨r, hr, rfl⟩ := List.mem_map.mp h
    exact Ok_der ok r (List.mem_of_mem_take hr)
theorem Ok_effBody (ok : p.Ok m) : ∀ q ∈ p.effects, (PyData.tuple (rowsD q.2)).canLay0 = true ∧ (PyData.tuple (rowsD q.2)).depth ≤ 20 := fun q hq => by
  obtain ⟨i, hi⟩ := List.getElem?_of_mem hq
  exact body_lay ⟨Ok_words ok, Ok_sources ok, Ok_cells ok⟩ (okEff_get ok.eff hi).1
theorem Ok_derD (ok : p.Ok m) : (pairsD p.derived).canLay0 = true ∧ (pairsD p.derived).depth ≤ 22 := pairs_lay fun q hq => ⟨Ok_der ok q hq, Ok_derBody ok q hq⟩
theorem Ok_effD (ok : p.Ok m) : (pairsD p.effects).canLay0 = true ∧ (pairsD p.effects).depth ≤ 22 := pairs_lay fun q hq => ⟨Ok_eff ok q hq, Ok_effBody ok q hq⟩
theorem Ok_data (ok : p.Ok m) : p.data.canLay0 = true ∧ p.data.depth ≤ 23 := by
  refine lay_tup (n := 22) fun x hx => ?_
  simp only [List.mem_cons, List.not_mem_nil, or_false] at hx
  rcases hx with rfl | rfl | rfl | rfl
  · exact lay_le (strs_layD (Ok_words ok)) (by omega)
  · exact lay_le (strs_layD (Ok_sources ok)) (by omega)
  · exact Ok_derD ok
  · exact Ok_effD ok
end
/-! ### the paths as data -/
def pathOk (d : PyData) : Prop := d.canLay0 = true ∧ d.depth ≤ 3
theorem path_lay {pb : List PyData} (h : ∀ x ∈ pb, x.canLay0 = true ∧ x.depth ≤ 1) (i : Nat) : pathOk (.tuple (pb ++ [.int (i : Nat)])) := by
  refine lay_le (lay_tup (n := 1) fun x hx => ?_) (by omega)
  rcases List.mem_append.mp hx with hx | hx
  · exact h x hx
  · rw [List.mem_singleton.mp hx]; exact ⟨by simp only [PyData.canLay0], by simp [PyData.depth]⟩
theorem base_lay {pb : List PyData} (h : ∀ x ∈ pb, x.canLay0 = true ∧ x.depth ≤ 1) (i : Nat) : ∀ x ∈ pb ++ [PyData.int (i : Nat)], x.canLay0 = true ∧ x.depth ≤ 1 := fun x hx => by
  rcases List.mem_append.mp hx with hx | hx
  · exact h x hx
  · rw [List.mem_singleton.mp hx]; exact ⟨by simp only [PyData.canLay0], by simp [PyData.depth]⟩
mutual
theorem pathsR_lay : ∀ (r : Td.Row) (pb : List PyData) (i : Nat), (∀ x ∈ pb, x.canLay0 = true ∧ x.depth ≤ 1) → ∀ d ∈ pathsR r pb i, pathOk d
  | .ite s w y n, pb, i, h => by
    intro d hd
    simp only [pathsR, List.mem_cons, List.mem_append] at hd
    rcases hd with rfl | hd | hd
    · exact path_lay h i
    · exact pathsRs_lay y _ 0 (base_lay (base_lay h i) 0) d hd
    · exact pathsRs_lay n _ 0 (base_lay (base_lay h i) 1) d hd
  | .rd .., pb, i, h => by intro d hd; simp only [pathsR, List.mem_singleton] at hd; subst hd; exact path_lay h i
  | .put .., pb, i, h => by intro d hd; simp only [pathsR, List.mem_singleton] at hd; subst hd; exact path_lay h i
  | .give .., pb, i, h => by intro d hd; simp only [pathsR, List.mem_singleton] at hd; subst hd; exact path_lay h i
  | .say .., pb, i, h => by intro d hd; simp only [pathsR, List.mem_singleton] at hd; subst hd; exact path_lay h i
  | .wr .., pb, i, h => by intro d hd; simp only [pathsR, List.mem_singleton] at hd; subst hd; exact path_lay h i
theorem pathsRs_lay : ∀ (rs : List Td.Row) (pb : List PyData) (k : Nat), (∀ x ∈ pb, x.canLay0 = true ∧ x.depth ≤ 1) → ∀ d ∈ pathsRs rs pb k, pathOk d
  | [], pb, k, h => by intro d hd; simp only [pathsRs] at hd; cases hd
  | r :: rs, pb, k, h => by
    intro d hd
    simp only [pathsRs, List.mem_append] at hd
    rcases hd with hd | hd
    · exact pathsR_lay r pb k h d hd
    · exact pathsRs_lay rs pb (k + 1) h d hd
end
theorem pathsP_lay {kd : Str} (hk : PyData.strOk kd = true) : ∀ (ps : List (Str × List Td.Row)) (k : Nat), ∀ d ∈ pathsP kd ps k, pathOk d
  | [], k => by intro d hd; simp only [pathsP] at hd; cases hd
  | p :: ps, k => by
    intro d hd
    simp only [pathsP, List.mem_append] at hd
    rcases hd with hd | hd
    · refine pathsRs_lay p.2 _ 0 (fun x hx => ?_) d hd
      simp only [List.mem_cons, List.not_mem_nil, or_false] at hx
      rcases hx with rfl | rfl
      · exact lay_lit hk
      · exact ⟨by simp only [PyData.canLay0], by simp [PyData.depth]⟩
    · exact pathsP_lay hk ps (k + 1) d hd
theorem pathsAll_lay (p : PP) : (PyData.list (pathsAll p)).canLay0 = true ∧ (PyData.list (pathsAll p)).depth ≤ 4 := by
  obtain ⟨h1, h2⟩ := sm_all (k := 3) (pathsAll p) (fun d hd => by
    unfold pathsAll at hd
    rcases List.mem_append.mp hd with hd | hd
    · exact pathsP_lay (by decide +kernel) _ 0 d hd
    · exact pathsP_lay (by decide +kernel) _ 0 d hd)
  exact ⟨by simp only [PyData.canLay0, h1], by simp only [PyData.depth]; omega⟩
/-! ### cells, names of derived cells, bodies that are not there -/
def spCells (K : PySem.W.Frag) (CP : Addr) : Sp := fun vs H Q _ => ∃ (pa : Addr) (p : PP) (m : Nat), vs = [.ref pa] ∧ ProgAt K H CP pa p ∧ p.Ok m ∧
  ∀ t H', Same H H' → SqT K H' t (p.cells.map V.str) → Q (.ref t) H'
def spBodyBad (K : PySem.W.Frag) (CP CU : Addr) : Sp := fun vs H Q E => ∃ (pa : Addr) (z : Str) (p : PP) (m : Nat), vs = [.ref pa, .str z] ∧ ProgAt K H CP pa p ∧ p.Ok m ∧ z ∉ (p.derived ++ p.effects).map (·.1) ∧ Rz CU "name" (.str z) H E
def spUnk (K : PySem.W.Frag) (CP : Addr) : Sp := fun vs H Q _ => ∃ (pa : Addr) (z : Str) (p : PP) (m : Nat), vs = [.ref pa, .str z] ∧ ProgAt K H CP pa p ∧ p.Ok m ∧ isNm z = true ∧ z ∉ (p.derived ++ p.effects).map (·.1) ∧ ∀ H', Same H H' → Q (.bl true) H'
section
variable {P : Program} {w : World} {K : PySem.W.Frag} {mg : Str → Option Value} {base : Heap}
theorem ok_UnknownCell (T : Tops w K mg) : FnOk P w K mg base CX0 1 T.a_UnknownCell_init T.d_UnknownCell_init ["self", "name"] (spExc K T.c_UnknownCell "name") := by
  refine T.F_UnknownCell_init.ok sc_UnknownCell_init (fun vs H Q E h => ?_) (fun cdv A outer s H vs Q E hr h => ?_)
  · obtain ⟨a, y, rfl, _⟩ := h
    rfl
  obtain ⟨a, y, rfl, ha, q⟩ := h
  exact ⟨_, (pss_one (ps_ost (pv 0) (pv 1))), _, rfl, _, rfl, a, T.c_UnknownCell, rfl, T.x_UnknownCell, T.n_UnknownCell_name, .inl ⟨ha, fun dx h1 h2 => q dx _ h1 h2 rfl⟩⟩
theorem ok_cells (T : Tops w K mg) :
    FnOk P w K mg base CX0 2 T.a_Program_cells T.d_Program_cells ["self"] (spCells K T.c_Program) := by
  refine T.F_Program_cells.ok sc_Program_cells (fun vs H Q E h => ?_) (fun cdv A outer s H vs Q E hr h => ?_)
  · obtain ⟨pa, p, m, rfl, _⟩ := h
    rfl
  obtain ⟨pa, p, m, rfl, hP, ok, q⟩ := h
  obtain ⟨dx, aw, as, vd, ve, ⟨dn, en, e, hdn, hen⟩, h1, h2, h3, h4⟩ := hP.ex
  have d6 := ok.d6
  have s4 := ok.s4
  refine ⟨_, (pss_one (ps_ret (pe_op op_catA (pe_fld (pv 0) rfl) (pe_fld (pv 0) rfl)))), ?_⟩
  refine ⟨_, rfl, pa, _, dx, _, _, rfl, e, T.l_Program, T.n_Program_sources, progF_sources .., _, rfl, pa, _, dx, _, _, rfl, e, T.l_Program, T.n_Program__derived_names, progF_dn .., ?_⟩
  refine cat_all h2 hdn (Nat.le_of_lt (small1000 (by rw [List.length_map, List.length_map]; omega))) (fun c H2 t2 hc => q c H2 t2 ?_)
  unfold PP.cells
  rw [List.map_append, List.map_map]
  exact hc
theorem ok_derived_names (T : Tops w K mg) :
    FnOk P w K mg base CX0 2 T.a_Program_derived_names T.d_Program_derived_names ["self"] (spDerivedNames K T.c_Program) := by
  refine T.F_Program_derived_names.ok sc_Program_derived_names (fun vs H Q E h => ?_) (fun cdv A outer s H vs Q E hr h => ?_)
  · obtain ⟨pa, p, m, rfl, _⟩ := h
    rfl
  obtain ⟨pa, p, m, rfl, hP, ok, q⟩ := h
  obtain ⟨dx, aw, as, vd, ve, ⟨dn, en, e, hdn, hen⟩, h1, h2, h3, h4⟩ := hP.ex
  have d6 := ok.d6
  refine ⟨_, (pss_one (ps_ret (pe_fld (pv 0) rfl))), ?_⟩
  exact ⟨_, rfl, pa, _, dx, _, _, rfl, e, T.l_Program, T.n_Program__derived_names, progF_dn .., q dn H (Same.refl _) hdn⟩
theorem ok_body_bad (T : Tops w K mg) (G_UnknownCell_init : FnOk P w K mg base CX0 1 T.a_UnknownCell_init T.d_UnknownCell_init ["self", "name"] (spExc K T.c_UnknownCell "name")) :
    FnOk P w K mg base (L2.CX P w) 3 T.a_Program_body T.d_Program_body ["self", "name"] (spBodyBad K T.c_Program T.c_UnknownCell) := by
  refine T.F_Program_body.okX sc_Program_body (fun vs H Q E h => ?_) (fun cdv A outer s H vs Q E hr h => ?_)
  · obtain ⟨pa, z, p, m, rfl, _⟩ := h
    rfl
  obtain ⟨pa, z, p, m, rfl, hP, ok, hno, r⟩ := h
  obtain ⟨dx, aw, as, vd, ve, ⟨dn, en, e, hdn, hen⟩, h1, h2, h3, h4⟩ := hP.ex
  obtain ⟨ad, xs, rfl, hA, hTA⟩ := Tn.tup_inv h3
  obtain ⟨ae, ys, rfl, hA2, hTA2⟩ := Tn.tup_inv h4
  have d6 := ok.d6
  have e4 := ok.e4
  have lx := hTA.length
  have ly := hTA2.length
  rw [List.length_map] at lx ly
  refine ⟨_, (pss_cons (ps_for (passes_of rfl) rfl (pi_tup (pe_op op_catA (pe_fld (pv 0) rfl) (pe_fld (pv 0) rfl))) (pg_tup rfl (pgs_cons (pg_name (i := 2) sc_Program_body.nd rfl (Or.inl rfl)) (pgs_cons (pg_name (i := 3) sc_Program_body.nd rfl (Or.inl rfl)) pgs_nil))) (pss_one (ps_if (pt_cmpR op_eq (pv 2) (pv 1) (nomark _)) (pss_one (ps_ret (pv 3))) pss_nil)))
    (pss_one (ps_raise rfl (takes_of rfl rfl rfl rfl) (pmk_oex T.x_UnknownCell T.xi_UnknownCell T.xt_UnknownCell G_UnknownCell_init (hr.mono (by omega)) T.b_UnknownCell_init .nil pass0 rfl T.m_UnknownCell (pa_cons (pv 1) pa_nil))))), ?_⟩
  refine ⟨_, rfl, pa, _, dx, _, _, rfl, e, T.l_Program, T.n_Program_derived, progF_derived .., _, rfl, pa, _, dx, _, _, rfl, e, T.l_Program, T.n_Program_effects, progF_effects .., ?_⟩
  refine cat_all hA hA2 (Nat.le_of_lt (small1000 (by omega))) (fun c H1 s1 hc => ?_)
  have hT : Tn K H1 (.ref c) (pairsD (p.derived ++ p.effects)) := .tup hc (TnAll.keep (TK.of_same s1) (pairs_append hTA hTA2))
  obtain ⟨c', zs, e2, hC, hl, hx⟩ := pairs_at hT
  cases e2
  refine ⟨c, rfl, ⟨_, hC⟩, for_tup (K := K) (a := c) (xs := zs) (fun i σ H' => ∃ (v2 v3 : Option V), σ = [some (.ref pa), some (.str z), v2, v3] ∧ Same H1 H')
    ⟨none, none, rfl, Same.refl _⟩ (fun i σ H' _ ⟨_, _, _, hs⟩ => SqT.same hs hC) ?_ ?_⟩
  · rintro i x σ H2 hi ⟨v2, v3, rfl, hs⟩
    obtain ⟨r', b, vr, hr1, rfl, hB, hR⟩ := hx i x hi
    refine ⟨b, _, rfl, SqT.same hs hB, rfl, _, _, rfl, _, _, rfl, rfl, ?_⟩
    refine ⟨_, rfl, _, rfl, rfl, _, rfl, ?_⟩
    exact if_false_of (decide_eq_false (fun h => hno (by injection h with h; rw [← h]; exact List.mem_map.mpr ⟨r', List.mem_of_getElem? hr1, rfl⟩))) ⟨_, _, rfl, hs⟩
  · rintro σ H2 ⟨v2, v3, rfl, hs⟩
    exact ⟨_, rfl, made_one (r.later (s1.trans hs))⟩
theorem ok_law_unknown (T : Tops w K mg) (G_Program_body : FnOk P w K mg base (L2.CX P w) 3 T.a_Program_body T.d_Program_body ["self", "name"] (spBodyBad K T.c_Program T.c_UnknownCell)) :
    FnOk P w K mg base CX0 4 T.a__law_unknown T.d__law_unknown ["_law_program", "_law_name"] (spUnk K T.c_Program) := by
  refine T.F__law_unknown.ok sc_law_unknown (fun vs H Q E h => ?_) (fun cdv A outer s H vs Q E hr h => ?_)
  · obtain ⟨pa, z, p, m, rfl, _⟩ := h
    rfl
  obtain ⟨pa, z, p, m, rfl, hP, ok, hz, hno, q⟩ := h
  obtain ⟨dx, aw, as, vd, ve, ⟨dn, en, e, hdn, hen⟩, h1, h2, h3, h4⟩ := hP.ex
  refine ⟨_, (pss_cons (ps_set (i := 2) sc_law_unknown.nd rfl (Or.inl rfl) (pe_tup (pa_cons pe_str pa_nil)))
    (pss_cons (ps_try_asL rfl rfl sc_law_unknown.nd takes0 (fun W pn xe tk _ => (pss_one (ps_expr (pe_methAt (pv 0) T.l_Program T.t_Program_body G_Program_body (hr.mono (by omega)) T.b_Program_body (fun σ => passAt tk σ) (pa_cons (pv 1) pa_nil))))) (Clauses.more (i := 3) rfl rfl ⟨rfl, by decide, .inl T.m_UnknownCell⟩ (fun a oe cls d pn hz hf => (pss_one (ps_set (i := 2) sc_law_unknown.nd rfl (Or.inl rfl) (pe_tup (pa_cons pe_str (pa_cons (pe_xf ⟨T.xa_UnknownCell, T.xg_UnknownCell, T.x_UnknownCell.exC, T.xh_UnknownCell⟩ T.n_UnknownCell_name hz hf (pv 3)) pa_nil)))))) Clauses.none))
    (pss_one (ps_ret (pe_cmpR (op_eqD hr.units) (pv 2) (pe_tup (pa_cons pe_str (pa_cons (pv 1) pa_nil))) (nomark _)))))), ?_⟩
  refine ⟨by show 1 ≤ sizeLine; decide, fun t0 ht0 => ?_⟩
  have s0 := Same.new ht0 (.tup [V.str "told"])
  refine ⟨_, rfl, pa, dx, _, rfl, s0 _ _ e, by kernel_rfl, _, rfl, pa, z, p, m, rfl, hP.same s0, ok, hno, fun d H2 s2 hd he => ?_⟩
  refine ⟨true, T.xe_UnknownCell, fun _ ea hea => ?_, lie⟩
  have kl : ((([("name", V.str z)] : List (Str × V)).lookup ("name" : Str))) = some (.str z) := by kernel_rfl
  refine ⟨_, rfl, rfl, rfl, d, _, _, rfl, he, kl, by show 2 ≤ sizeLine; decide, fun t ht => ?_⟩
  have s3 := Same.new ht (.tup [V.str "unknown", .str z])
  have f1 : Dp K (upd H2 t (.tup [V.str "unknown", .str z])) (.ref t) (.tuple [.str "unknown", .str z]) := .tup (SqT.of upd_same) (.cons (.str _) (.cons (.str _) .nil))
  have s03 := (s0.trans s2).trans s3
  generalize upd H2 t (.tup [V.str "unknown", .str z]) = H3 at s3 f1 s03
  refine ⟨_, rfl, _, rfl, by show 2 ≤ sizeLine; decide, fun t2 ht2 => ?_⟩
  have s4 := Same.new ht2 (.tup [V.str "unknown", .str z])
  have ly : (PyData.tuple [.str "unknown", .str z]).canLay0 = true ∧ (PyData.tuple [.str "unknown", .str z]).depth ≤ 2 := lay_tup (n := 1) fun x hx => by
    simp only [List.mem_cons, List.not_mem_nil, or_false] at hx
    rcases hx with rfl | rfl
    · exact lay_lit (by decide +kernel)
    · exact lay_str hz
  exact eq_same (Dp.same s4 f1) (.tup (SqT.of upd_same) (.cons (.str _) (.cons (.str _) .nil))) ly.1 (by omega) (q _ (s03.trans s4))
end
end K01
namespace K01
open PySem PySem.Spec PyProof.Rows L2 Td
/-! ### other parts: turned words, turned sources, one row put in -/
structure ScLe (S S' : Sc) : Prop where
  e : S'.eff = S.eff
  w : ∀ z ∈ S.words, z ∈ S'.words
  s : ∀ z ∈ S.sources, z ∈ S'.sources
  r : ∀ z ∈ S.readable, z ∈ S'.readable
mutual
theorem okR_le {S S' : Sc} (le : ScLe S S') : ∀ (r : Td.Row) (dep : Nat), okR S dep r → okR S' dep r
  | .rd pk c s, dep, h => by unfold okR at h ⊢; exact ⟨fun e => by rw [le.e]; exact h.1 e, le.r _ h.2.1, h.2.2⟩
  | .put s w, dep, h => by unfold okR at h ⊢; exact ⟨h.1, le.w _ h.2⟩
  | .give s, dep, h => by unfold okR at h ⊢; exact ⟨by rw [le.e]; exact h.1, h.2⟩
  | .say s, dep, h => by unfold okR at h ⊢; exact ⟨by rw [le.e]; exact h.1, h.2⟩
  | .wr c s, dep, h => by unfold okR at h ⊢; exact ⟨by rw [le.e]; exact h.1, le.s _ h.2.1, h.2.2⟩
  | .ite s w y n, dep, h => by unfold okR at h ⊢; exact ⟨h.1, h.2.1, le.w _ h.2.2.1, okRs_le le y _ h.2.2.2.1, okRs_le le n _ h.2.2.2.2⟩
theorem okRs_le {S S' : Sc} (le : ScLe S S') : ∀ (rs : List Td.Row) (dep : Nat), okRs S dep rs → okRs S' dep rs
  | [], dep, _ => by unfold okRs; trivial
  | r :: rs, dep, h => by unfold okRs at h ⊢; exact ⟨okR_le le r dep h.1, okRs_le le rs dep h.2⟩
end
section
variable {ws ws' ss ss' : List Str} {most : Nat}
theorem okDer_le (hw : ∀ z ∈ ws, z ∈ ws') (hs : ∀ z ∈ ss, z ∈ ss') : ∀ {ps : List (Str × List Td.Row)} {rd rd' : List Str}, (∀ z ∈ rd, z ∈ rd') → okDer ws ss most rd ps → okDer ws' ss' most rd' ps
  | [], rd, rd', _, _ => by unfold okDer; trivial
  | p :: ps, rd, rd', hr, h => by
    unfold okDer at h ⊢
    refine ⟨okRs_le (S := ⟨false, ws, ss, rd⟩) (S' := ⟨false, ws', ss', rd'⟩) ⟨rfl, hw, hs, hr⟩ _ _ h.1, h.2.1, okDer_le hw hs (fun z hz => ?_) h.2.2⟩
    rcases List.mem_append.mp hz with h | h
    · exact List.mem_append_left _ (hr z h)
    · exact List.mem_append_right _ h
theorem okEff_le (hw : ∀ z ∈ ws, z ∈ ws') (hs : ∀ z ∈ ss, z ∈ ss') {rd rd' : List Str} (hr : ∀ z ∈ rd, z ∈ rd') : ∀ {ps : List (Str × List Td.Row)}, okEff ws ss rd most ps → okEff ws' ss' rd' most ps
  | [], _ => by unfold okEff; trivial
  | p :: ps, h => by
    unfold okEff at h ⊢
    exact ⟨okRs_le (S := ⟨true, ws, ss, rd⟩) (S' := ⟨true, ws', ss', rd'⟩) ⟨rfl, hw, hs, hr⟩ _ _ h.1, h.2.1, okEff_le hw hs hr h.2.2⟩
theorem okDer_mid {q q' : Str × List Td.Row} {r : List (Str × List Td.Row)} (e : q'.1 = q.1) (hr : ∀ rd, okRs ⟨false, ws, ss, rd⟩ 1 q.2 → okRs ⟨false, ws, ss, rd⟩ 1 q'.2) (hl : Lim false most q.2 → Lim false most q'.2) : ∀ (l : List (Str × List Td.Row)) (rd : List Str),
    okDer ws ss most rd (l ++ q :: r) → okDer ws ss most rd (l ++ q' :: r)
  | [], rd, h => by
    rw [List.nil_append] at h ⊢
    unfold okDer at h ⊢
    rw [e]
    exact ⟨hr _ h.1, hl h.2.1, h.2.2⟩
  | p :: l, rd, h => by
    rw [List.cons_append] at h ⊢
    unfold okDer at h ⊢
    exact ⟨h.1, h.2.1, okDer_mid e hr hl l _ h.2.2⟩
theorem okEff_mid {q q' : Str × List Td.Row} {r : List (Str × List Td.Row)} {rd : List Str} (hr : okRs ⟨true, ws, ss, rd⟩ 1 q.2 → okRs ⟨true, ws, ss, rd⟩ 1 q'.2) (hl : Lim true most q.2 → Lim true most q'.2) : ∀ (l : List (Str × List Td.Row)),
    okEff ws ss rd most (l ++ q :: r) → okEff ws ss rd most (l ++ q' :: r)
  | [], h => by
    rw [List.nil_append] at h ⊢
    unfold okEff at h ⊢
    exact ⟨hr h.1, hl h.2.1, h.2.2⟩
  | p :: l, h => by
    rw [List.cons_append] at h ⊢
    unfold okEff at h ⊢
    exact ⟨h.1, h.2.1, okEff_mid hr hl l h.2.2⟩
end
def putIn (z w : Str) (rs : List Td.Row) : List Td.Row := .put z w :: rs.drop 1
theorem putIn_ok {S : Sc} {z w : Str} {rs : List Td.Row} (hz : isNm z = true) (hw : w ∈ S.words) (h : okRs S 1 rs) : okRs S 1 (putIn z w rs) := by
  have h2 : okRs S 1 (rs.drop 1) := by
    cases rs with
    | nil => exact h
    | cons r l => unfold okRs at h; exact h.2
  unfold putIn okRs
  exact ⟨by unfold okR; exact ⟨hz, hw⟩, h2⟩
theorem cnt_pos (r : Td.Row) : 1 ≤ Td.cnt r := by cases r <;> (unfold Td.cnt; omega)
theorem cnt_put (z w : Str) : Td.cnt (.put z w) = 1 := by unfold Td.cnt; rfl
theorem putIn_lim {eff : Bool} {most : Nat} {z w : Str} {rs : List Td.Row} (hm : 2 ≤ most) (h : Lim eff most rs) : Lim eff most (putIn z w rs) := by
  obtain ⟨h1, rs0, t, e, h2, ht⟩ := h
  subst e
  cases rs0 with
  | nil =>
    have e : putIn z w ([] ++ t) = [.put z w] := by
      unfold putIn
      rcases ht with rfl | ⟨s, rfl⟩ <;> rfl
    rw [e]
    have c1 : cnts [Td.Row.put z w] = 1 := by simp [cnts, cnt_put]
    exact ⟨by omega, [.put z w], [], rfl, by omega, .inl rfl⟩
  | cons r l =>
    have e : putIn z w (r :: l ++ t) = (.put z w :: l) ++ t := rfl
    rw [e]
    have c1 : cnts ((Td.Row.put z w :: l) ++ t) = 1 + cnts (l ++ t) := by rw [List.cons_append]; simp [cnts, cnt_put]
    have c2 : cnts (r :: l ++ t) = Td.cnt r + cnts (l ++ t) := by rw [List.cons_append]; simp [cnts]
    have c3 : cnts (Td.Row.put z w :: l) = 1 + cnts l := by simp [cnts, cnt_put]
    have c4 : cnts (r :: l) = Td.cnt r + cnts l := by simp [cnts]
    have p := cnt_pos r
    exact ⟨by omega, .put z w :: l, t, rfl, by omega, ht⟩
theorem Names.perm {ns ms : List Str} (h : Names ns) (p : ms.Perm ns) : Names ms := ⟨fun z hz => h.good z (p.mem_iff.mp hz), p.nodup_iff.mpr h.nd⟩
def turn {α : Type} (l : List α) : List α := l.drop 1 ++ l.take 1
theorem turn_perm {α : Type} (l : List α) : (turn l).Perm l := by
  have h : (l.take 1 ++ l.drop 1).Perm l := by rw [List.take_append_drop]
  exact List.perm_append_comm.trans h
theorem turn_len {α : Type} (l : List α) : (turn l).length = l.length := (turn_perm l).length_eq
section
variable {p : PP} {m : Nat}
theorem Ok_turnW (ok : p.Ok m) : PP.Ok { p with words := turn p.words } m where
  w2 := by show 2 ≤ (turn p.words).length; rw [turn_len]; exact ok.w2
  w4 := by show (turn p.words).length ≤ 4; rw [turn_len]; exact ok.w4
  s1 := ok.s1
  s4 := ok.s4
  d6 := ok.d6
  e4 := ok.e4
  wn := Names.perm ok.wn (turn_perm _)
  nn := ok.nn
  der := okDer_le (fun z h => (turn_perm p.words).mem_iff.mpr h) (fun z h => h) (fun z h => h) ok.der
  eff := okEff_le (fun z h => (turn_perm p.words).mem_iff.mpr h) (fun z h => h) (fun z h => h) ok.eff
theorem Ok_turnS (ok : p.Ok m) : PP.Ok { p with sources := turn p.sources } m where
  w2 := ok.w2
  w4 := ok.w4
  s1 := by show 1 ≤ (turn p.sources).length; rw [turn_len]; exact ok.s1
  s4 := by show (turn p.sources).length ≤ 4; rw [turn_len]; exact ok.s4
  d6 := ok.d6
  e4 := ok.e4
  wn := ok.wn
  nn := Names.perm ok.nn (((turn_perm p.sources).append_right _).append_right _)
  der := okDer_le (fun z h => h) (fun z h => (turn_perm p.sources).mem_iff.mpr h) (fun z h => (turn_perm p.sources).mem_iff.mpr h) ok.der
  eff := okEff_le (fun z h => h) (fun z h => (turn_perm p.sources).mem_iff.mpr h) (fun z h => ((turn_perm p.sources).append_right _).mem_iff.mpr h) ok.eff
theorem Ok_midD (ok : p.Ok m) (hm : 2 ≤ m) {l r : List (Str × List Td.Row)} {q : Str × List Td.Row} {u : Str} (e : p.derived = l ++ q :: r) (hu : u ∈ p.words) : PP.Ok { p with derived := l ++ (q.1, putIn q.1 u q.2) :: r } m := by
  have en : (l ++ (q.1, putIn q.1 u q.2) :: r).map (·.1) = p.derived.map (·.1) := by rw [e]; simp
  have hq : isNm q.1 = true := Ok_der ok q (by rw [e]; simp)
  have hd := ok.der
  have h6 := ok.d6
  rw [e] at hd h6
  exact {
    w2 := ok.w2, w4 := ok.w4, s1 := ok.s1, s4 := ok.s4, e4 := ok.e4, wn := ok.wn
    d6 := by show (l ++ (q.1, putIn q.1 u q.2) :: r).length ≤ 6; simp at h6 ⊢; omega
    nn := by
      show Names (p.sources ++ (l ++ (q.1, putIn q.1 u q.2) :: r).map (·.1) ++ p.effects.map (·.1))
      rw [en]; exact ok.nn
    der := okDer_mid (q := q) (q' := (q.1, putIn q.1 u q.2)) (r := r) rfl (fun rd h => putIn_ok (S := ⟨false, p.words, p.sources, rd⟩) hq hu h) (putIn_lim hm) l p.sources hd
    eff := by
      show okEff p.words p.sources (p.sources ++ (l ++ (q.1, putIn q.1 u q.2) :: r).map (·.1)) m p.effects
      rw [en]; exact ok.eff }
theorem Ok_midE (ok : p.Ok m) (hm : 2 ≤ m) {l r : List (Str × List Td.Row)} {q : Str × List Td.Row} {u : Str} (e : p.effects = l ++ q :: r) (hu : u ∈ p.words) : PP.Ok { p with effects := l ++ (q.1, putIn q.1 u q.2) :: r } m := by
  have en : (l ++ (q.1, putIn q.1 u q.2) :: r).map (·.1) = p.effects.map (·.1) := by rw [e]; simp
  have hq : isNm q.1 = true := Ok_eff ok q (by rw [e]; simp)
  have hd := ok.eff
  have h6 := ok.e4
  rw [e] at hd h6
  exact {
    w2 := ok.w2, w4 := ok.w4, s1 := ok.s1, s4 := ok.s4, d6 := ok.d6, wn := ok.wn
    e4 := by show (l ++ (q.1, putIn q.1 u q.2) :: r).length ≤ 4; simp at h6 ⊢; omega
    nn := by
      show Names (p.sources ++ p.derived.map (·.1) ++ (l ++ (q.1, putIn q.1 u q.2) :: r).map (·.1))
      rw [en]; exact ok.nn
    der := ok.der
    eff := okEff_mid (q := q) (q' := (q.1, putIn q.1 u q.2)) (r := r) (fun h => putIn_ok (S := ⟨true, p.words, p.sources, p.cells⟩) hq hu h) (putIn_lim hm) l hd }
end
theorem TnAll.takeN {K : PySem.W.Frag} {H : Hp} : ∀ (n : Nat) {xs : List V} {ds : List PyData}, TnAll K H xs ds → TnAll K H (xs.take n) (ds.take n)
  | 0, _, _, _ => by rw [List.take_zero, List.take_zero]; exact .nil
  | n + 1, _, _, .nil => by rw [List.take_nil, List.take_nil]; exact .nil
  | n + 1, _, _, .cons a b => by rw [List.take_succ_cons, List.take_succ_cons]; exact .cons a (TnAll.takeN n b)
theorem TnAll.dropN {K : PySem.W.Frag} {H : Hp} : ∀ (n : Nat) {xs : List V} {ds : List PyData}, TnAll K H xs ds → TnAll K H (xs.drop n) (ds.drop n)
  | 0, _, _, h => h
  | n + 1, _, _, .nil => by rw [List.drop_nil, List.drop_nil]; exact .nil
  | n + 1, _, _, .cons a b => TnAll.dropN n b
def spOther (K : PySem.W.Frag) : Sp := fun vs H Q _ => ∃ (v : V) (p : PP) (m : Nat) (i : Int) (st sc : Addr), vs = [v, .int i, .ref st] ∧ Tn K H v p.data ∧ p.Ok m ∧ 2 ≤ m ∧ m ≤ 16 ∧ 0 ≤ i ∧ i < 4 ∧ StOk H st sc ∧
  ∀ (v' : V) (p' : PP) H', Keep st H H' → StOk H' st sc → p'.Ok m → Tn K H' v' p'.data → Q v' H'
section
variable {P : Program} {w : World} {K : PySem.W.Frag} {mg : Str → Option Value} {base : Heap}
theorem ok_law_other (T : Tops w K mg) (G__law_draw : FnOk P w K mg base CX0 1 T.a__law_draw T.d__law_draw ["_law_state_here", "_law_many_here"] spDraw) :
    FnOk P w K mg base CX0 2 T.a__law_other T.d__law_other ["_law_parts_here", "_law_part", "_law_state_here"] (spOther K) := by
  refine T.F__law_other.ok sc_law_other (fun vs H Q E h => ?_) (fun cdv A outer s H vs Q E hr h => ?_)
  · obtain ⟨v, p, m, i, st, sc, rfl, _⟩ := h
    rfl
  obtain ⟨v, p, m, i, st, sc, rfl, hD, ok, hm2, hm, i0, i4, hst, q⟩ := h
  obtain ⟨pa, aw, as, vd, ve, rfl, hP, h1, h2, h3, h4⟩ := parts_at hD
  have w2 := ok.w2
  have w4 := ok.w4
  have s4 := ok.s4
  have d6 := ok.d6
  have e4 := ok.e4
  refine ⟨_, (pss_cons (ps_set (i := 3) sc_law_other.nd rfl (Or.inl rfl) (pe_callTy call_list_of rfl T.z_list (by decide +kernel) (pa_cons (pv 0) pa_nil)))
    (C8.pss_cut (ps_if (pt_cmpR op_eq (pv 1) pe_int (nomark _)) (pss_one (ps_asg (pe_op op_catA (pe_slice sl_tupA (pe_ix ix_tup (pv 0) pe_int (fun _ _ => rfl)) (po_some pe_int) po_none) (pe_slice sl_tupA (pe_ix ix_tup (pv 0) pe_int (fun _ _ => rfl)) po_none (po_some pe_int))) (pg_sub (pv 3) pe_int set_list))) pss_nil)
    (C8.pss_cut (ps_if (PW.pt (pw_and (pt_cmpR op_eq (pv 1) pe_int (nomark _)) (pw_and1 (pt_cmpR op_gt (pe_callB call_len rfl T.z_len PySem.boot_len (pa_cons (pe_ix ix_tup (pv 0) pe_int (fun _ _ => rfl)) pa_nil)) pe_int (nomark _))))) (pss_one (ps_asg (pe_op op_catA (pe_slice sl_tupA (pe_ix ix_tup (pv 0) pe_int (fun _ _ => rfl)) (po_some pe_int) po_none) (pe_slice sl_tupA (pe_ix ix_tup (pv 0) pe_int (fun _ _ => rfl)) po_none (po_some pe_int))) (pg_sub (pv 3) pe_int set_list))) pss_nil)
    (pss_cons (ps_if (PW.pt (pw_and (pt_cmpR op_gt (pv 1) pe_int (nomark _)) (pw_and1 (pt_cmpR op_gt (pe_callB call_len rfl T.z_len PySem.boot_len (pa_cons (pe_ix ix_tup (pv 0) (pv 1) (fun _ _ => rfl)) pa_nil)) pe_int (nomark _))))) (pss_cons (ps_set (i := 4) sc_law_other.nd rfl (Or.inl rfl) (pe_call G__law_draw (hr.mono (by omega)) rfl T.m__law_draw T.F__law_draw.kp T.b__law_draw .nil pass0 (pa_cons (pv 2) (pa_cons (pe_callB call_len rfl T.z_len PySem.boot_len (pa_cons (pe_ix ix_tup (pv 0) (pv 1) (fun _ _ => rfl)) pa_nil)) pa_nil))))
    (pss_cons (ps_asg (pe_ix ix_tup (pe_ix ix_tup (pv 0) (pv 1) (fun _ _ => rfl)) (pv 4) (fun _ _ => rfl)) (pg_tup rfl (pgs_cons (pg_name (i := 5) sc_law_other.nd rfl (Or.inl rfl)) (pgs_cons (pg_name (i := 6) sc_law_other.nd rfl (Or.inl rfl)) pgs_nil))))
    (pss_cons (ps_set (i := 6) sc_law_other.nd rfl (Or.inl rfl) (pe_op op_catA (pe_tup (pa_cons (pe_tup (pa_cons pe_str (pa_cons (pv 5) (pa_cons (pe_ix ix_tup (pe_ix ix_tup (pv 0) pe_int (fun _ _ => rfl)) (pe_call G__law_draw (hr.mono (by omega)) rfl T.m__law_draw T.F__law_draw.kp T.b__law_draw .nil pass0 (pa_cons (pv 2) (pa_cons (pe_callB call_len rfl T.z_len PySem.boot_len (pa_cons (pe_ix ix_tup (pv 0) pe_int (fun _ _ => rfl)) pa_nil)) pa_nil))) (fun _ _ => rfl)) pa_nil)))) pa_nil)) (pe_slice sl_tupA (pv 6) (po_some pe_int) po_none)))
    (pss_one (ps_asg (pe_op op_catA (pe_op op_catA (pe_slice sl_tupA (pe_ix ix_tup (pv 0) (pv 1) (fun _ _ => rfl)) po_none (po_some (pv 4))) (pe_tup (pa_cons (pe_tup (pa_cons (pv 5) (pa_cons (pv 6) pa_nil))) pa_nil))) (pe_slice sl_tupA (pe_ix ix_tup (pv 0) (pv 1) (fun _ _ => rfl)) (po_some (pe_op op_add (pv 4) pe_int)) po_none)) (pg_sub (pv 3) (pv 1) set_list)))))) pss_nil)
    (pss_one (ps_ret (pe_callTy call_tuple_of rfl T.z_tuple (by decide +kernel) (pa_cons (pv 3) pa_nil)))))))), ?_⟩
  refine ⟨_, rfl, pa, _, rfl, .inr hP, fun l hl => ?_⟩
  have s1 := Same.new hl (.lst [V.ref aw, .ref as, vd, ve])
  have e1 : upd H l (.lst [V.ref aw, .ref as, vd, ve]) l = some (.lst [V.ref aw, .ref as, vd, ve]) := upd_same
  try dsimp only
  generalize upd H l (.lst [V.ref aw, .ref as, vd, ve]) = H1 at s1 e1
  refine ⟨fun σ' H' => ∃ (p1 : PP) (v1 v2 v3 v4 : V), σ' = [some (.ref pa), some (.int i), some (.ref st), some (.ref l), none, none, none] ∧ Same H H' ∧ H' l = some (.lst [v1, v2, v3, v4]) ∧ p1.Ok m ∧ Tn K H' v1 (strsD p1.words) ∧ Tn K H' v2 (strsD p1.sources) ∧ Tn K H' v3 (pairsD p1.derived) ∧ Tn K H' v4 (pairsD p1.effects) ∧ (i ≠ 0 → p1 = p), ?_, ?_⟩
  · refine ⟨_, rfl, rfl, _, rfl, ?_⟩
    by_cases c0 : i = 0
    · refine if_true_of (by rw [c0]; exact decide_eq_true rfl) ?_
      refine ⟨_, rfl, pa, _, 0, _, rfl, rfl, SqT.same s1 hP, rfl, 1, rfl, ?_⟩
      try dsimp only [tNoPart]
      refine sl_all (SqT.same s1 h1) fun p1 H2 s2 g1 => ?_
      have s12 := s1.trans s2
      have g1' : SqT K H2 p1 ((p.words.map V.str).drop 1) := by rw [← cut_from _ 1]; exact g1
      refine ⟨_, rfl, pa, _, 0, _, rfl, rfl, SqT.same s12 hP, rfl, 1, rfl, ?_⟩
      try dsimp only [tNoPart]
      refine sl_all (SqT.same s12 h1) fun p2 H3 s3 g2 => ?_
      have s13 := s12.trans s3
      have g2' : SqT K H3 p2 ((p.words.map V.str).take 1) := by rw [← cut_to _ 1 (by rw [List.length_map]; omega)]; exact g2
      refine cat_all (SqT.same s3 g1') g2' (Nat.le_of_lt (small1000 (by rw [List.length_drop, List.length_take, List.length_map]; omega))) (fun c H4 t4 hc => ?_)
      have s14 := s13.trans t4
      have e4' := t4 _ _ (s3 _ _ (s2 _ _ e1))
      have hc' : SqT K H4 c ((turn p.words).map V.str) := by unfold turn; rw [List.map_append, List.map_drop, List.map_take]; exact hc
      refine ⟨_, rfl, l, _, 0, 0, rfl, rfl, e4', rfl, ?_⟩
      have tk : TK H4 (upd H4 l (.lst [.ref c, .ref as, vd, ve])) := TK.upd (by rw [e4']; trivial)
      have tk0 := (TK.of_same s14).trans tk
      exact ⟨{ p with words := turn p.words }, .ref c, .ref as, vd, ve, rfl, Same.own s14 hl, upd_same, Ok_turnW ok, .tup (SqT.tk tk hc') (TnAll.strs _), .tup (SqT.tk tk0 h2) (TnAll.strs _), Tn.keep tk0 h3, Tn.keep tk0 h4, fun h => absurd c0 h⟩
    · refine if_false_of (decide_eq_false (fun h => c0 (by injection h))) ?_
      exact ⟨p, .ref aw, .ref as, vd, ve, rfl, s1, e1, ok, .tup (SqT.same s1 h1) (TnAll.strs _), .tup (SqT.same s1 h2) (TnAll.strs _), Tn.same s1 h3, Tn.same s1 h4, fun _ => rfl⟩
  clear s1 e1 H1
  rintro σ H1 ⟨p1, v1, v2, v3, v4, rfl, s1, e1, ok1, gW, gS, gD, gE, ep⟩
  refine ⟨fun σ' H' => ∃ (p1 : PP) (v1 v2 v3 v4 : V), σ' = [some (.ref pa), some (.int i), some (.ref st), some (.ref l), none, none, none] ∧ Same H H' ∧ H' l = some (.lst [v1, v2, v3, v4]) ∧ p1.Ok m ∧ Tn K H' v1 (strsD p1.words) ∧ Tn K H' v2 (strsD p1.sources) ∧ Tn K H' v3 (pairsD p1.derived) ∧ Tn K H' v4 (pairsD p1.effects) ∧ (1 < i → p1 = p), ?_, ?_⟩
  · refine ⟨_, rfl, rfl, _, rfl, ?_⟩
    by_cases c0 : i = 1
    · have ep1 := ep (by omega)
      subst ep1
      refine if_true_of (by rw [c0]; exact decide_eq_true rfl) ?_
      refine ⟨_, rfl, pa, _, 1, _, rfl, rfl, SqT.same s1 hP, rfl, .ref as, _, rfl, .inr ⟨_, SqT.same s1 h2, rfl⟩, _, _, rfl, rfl, _, rfl, ?_⟩
      by_cases c2 : 1 < p1.sources.length
      · refine if_true_of (decide_eq_true (by rw [List.length_map]; omega)) ?_
        refine ⟨_, rfl, pa, _, 1, _, rfl, rfl, SqT.same s1 hP, rfl, 1, rfl, ?_⟩
        try dsimp only [tNoPart]
        refine sl_all (SqT.same s1 h2) fun pp H2 s2 g1 => ?_
        have s12 := s1.trans s2
        have g1' : SqT K H2 pp ((p1.sources.map V.str).drop 1) := by rw [← cut_from _ 1]; exact g1
        refine ⟨_, rfl, pa, _, 1, _, rfl, rfl, SqT.same s12 hP, rfl, 1, rfl, ?_⟩
        try dsimp only [tNoPart]
        refine sl_all (SqT.same s12 h2) fun p2 H3 s3 g2 => ?_
        have s13 := s12.trans s3
        have g2' : SqT K H3 p2 ((p1.sources.map V.str).take 1) := by rw [← cut_to _ 1 (by rw [List.length_map]; omega)]; exact g2
        refine cat_all (SqT.same s3 g1') g2' (Nat.le_of_lt (small1000 (by rw [List.length_drop, List.length_take, List.length_map]; omega))) (fun c H4 t4 hc => ?_)
        have s14 := s13.trans t4
        have e4' := t4 _ _ (s3 _ _ (s2 _ _ e1))
        have hc' : SqT K H4 c ((turn p1.sources).map V.str) := by unfold turn; rw [List.map_append, List.map_drop, List.map_take]; exact hc
        refine ⟨_, rfl, l, _, 1, 1, rfl, rfl, e4', rfl, ?_⟩
        have tk : TK H4 (upd H4 l (.lst [v1, .ref c, v3, v4])) := TK.upd (by rw [e4']; trivial)
        have tk0 := (TK.of_same ((s2.trans s3).trans t4)).trans tk
        exact ⟨{ p1 with sources := turn p1.sources }, v1, .ref c, v3, v4, rfl, Same.own s14 hl, upd_same, Ok_turnS ok, Tn.keep tk0 gW, .tup (SqT.tk tk hc') (TnAll.strs _), Tn.keep tk0 gD, Tn.keep tk0 gE, fun h => by omega⟩
      · refine if_false_of (decide_eq_false (by rw [List.length_map]; omega)) ?_
        exact ⟨p1, v1, v2, v3, v4, rfl, s1, e1, ok1, gW, gS, gD, gE, fun h => by omega⟩
    · refine if_false_of (decide_eq_false (fun h => c0 (by injection h))) (if_false_of rfl ?_)
      exact ⟨p1, v1, v2, v3, v4, rfl, s1, e1, ok1, gW, gS, gD, gE, fun h => ep (by omega)⟩
  clear s1 e1 gW gS gD gE ok1 ep v1 v2 v3 v4 p1 H1
  rintro σ H1 ⟨p1, v1, v2, v3, v4, rfl, s1, e1, ok1, gW, gS, gD, gE, ep⟩
  have done : ∀ {H' : Hp} {p1 : PP} {v1 v2 v3 v4 : V}, Keep st H H' → StOk H' st sc → H' l = some (.lst [v1, v2, v3, v4]) → p1.Ok m → Tn K H' v1 (strsD p1.words) → Tn K H' v2 (strsD p1.sources) → Tn K H' v3 (pairsD p1.derived) → Tn K H' v4 (pairsD p1.effects) →
      ∃ (p : Addr) (ys : List V), [V.ref l] = [V.ref p] ∧ ((SqL K H' p ys ∧ ∀ (t : Addr), H' t = none → Q (V.ref t) (upd H' t (.tup ys))) ∨ (SqT K H' p ys ∧ Q (V.ref p) H')) := fun {H' p1 v1 v2 v3 v4} kp so el ok1 g1 g2 g3 g4 => by
    refine ⟨l, _, rfl, .inl ⟨SqL.of el, fun t ht => ?_⟩⟩
    have sn := Same.new ht (.tup [v1, v2, v3, v4])
    exact q _ p1 _ (kp.trans (Same.keep sn st)) (stGo so sn) ok1 (.tup (SqT.of upd_same) (.cons (Tn.same sn g1) (.cons (Tn.same sn g2) (.cons (Tn.same sn g3) (.cons (Tn.same sn g4) .nil)))))
  have nl : l ≠ st := (hst.ne hl).1
  refine ⟨_, rfl, _, _, rfl, rfl, _, rfl, ?_⟩
  by_cases c1 : 1 < i
  · have ep1 := ep c1
    subst ep1
    refine if_true_of (decide_eq_true c1) ?_
    have c23 : i = 2 ∨ i = 3 := by omega
    rcases c23 with rfl | rfl
    · obtain ⟨ad, xs, rfl, hA, hTA⟩ := Tn.tup_inv h3
      have xl : xs.length = p1.derived.length := by have := hTA.length; rwa [List.length_map] at this
      refine ⟨_, rfl, _, rfl, pa, _, 2, _, rfl, rfl, SqT.same s1 hP, rfl, .ref ad, _, rfl, .inr ⟨_, SqT.same s1 hA, rfl⟩, _, _, rfl, rfl, _, rfl, ?_⟩
      by_cases c0 : xs.length = 0
      · refine if_false_of (decide_eq_false (by omega)) ?_
        exact ⟨_, rfl, done (Same.keep s1 st) (stGo hst s1) e1 ok1 gW gS gD gE⟩
      refine if_true_of (decide_eq_true (by omega)) ?_
      have st1 := stGo hst s1
      refine ⟨_, rfl, _, rfl, _, rfl, pa, _, 2, _, rfl, rfl, SqT.same s1 hP, rfl, .ref ad, _, rfl, .inr ⟨_, SqT.same s1 hA, rfl⟩, st, sc, _, rfl, by omega, by omega, st1, fun r H2 r0 r1 k2 o2 _ => ?_⟩
      obtain ⟨j, rfl⟩ : ∃ j : Nat, r = (j : Nat) := ⟨r.toNat, by omega⟩
      have jl : j < xs.length := by omega
      have k02 : Keep st H H2 := (Same.keep s1 st).trans k2
      have tk2 := TK.of_keep k02 hst.chg
      have hix : xs[j]? = some xs[j] := List.getElem?_eq_getElem jl
      obtain ⟨dd, hd1, hd2⟩ := TnAll.get hTA hix
      rw [List.getElem?_map] at hd1
      obtain ⟨qq, hq, rfl⟩ := Option.map_eq_some_iff.mp hd1
      obtain ⟨b, es, eb, hB, hEs⟩ := Tn.tup_inv hd2
      obtain ⟨vr, rfl, hVr⟩ : ∃ vr, es = [.str qq.1, vr] ∧ Tn K H vr (.tuple (rowsD qq.2)) := by
        cases hEs with
        | cons a1 a2 =>
          cases a1
          cases a2 with
          | cons a3 a4 => cases a4; exact ⟨_, rfl, a3⟩
      obtain ⟨ar, zs, rfl, hZ, hZT⟩ := Tn.tup_inv hVr
      have zl : zs.length ≤ 100 := by
        have e1 := hZT.length
        rw [rowsD_length] at e1
        have e2 := cnts_len qq.2
        have e3 : cnts qq.2 ≤ m := (okDer_lim ok.der (List.mem_of_getElem? hq)).1
        omega
      rw [eb] at hix
      refine ⟨_, rfl, _, rfl, pa, _, 2, _, rfl, rfl, SqT.tk tk2 hP, rfl, _, rfl, ad, _, (j : Nat), .ref b, rfl, rfl, SqT.tk tk2 hA, atI_nat hix, b, _, rfl, SqT.tk tk2 hB, rfl, _, _, rfl, _, _, rfl, rfl, ?_⟩
      refine ⟨_, rfl, _, rfl, pa, _, 0, _, rfl, rfl, SqT.tk tk2 hP, rfl, _, rfl, _, rfl, pa, _, 0, _, rfl, rfl, SqT.tk tk2 hP, rfl, .ref aw, _, rfl, .inr ⟨_, SqT.tk tk2 h1, rfl⟩, st, sc, _, rfl, by rw [List.length_map]; omega, by rw [List.length_map]; omega, o2, fun y H3 y0 y1 k3 o3 _ => ?_⟩
      rw [List.length_map] at y1
      have yl : y.toNat < p1.words.length := by omega
      have k03 := k02.trans k3
      have tk3 := TK.of_keep k03 hst.chg
      refine ⟨aw, _, y, _, rfl, rfl, SqT.tk tk3 h1, at_word y0 yl, by show 3 ≤ sizeLine; decide, fun t1 ht1 => ?_⟩
      generalize hu : p1.words[y.toNat] = u
      have hum : u ∈ p1.words := by rw [← hu]; exact List.getElem_mem _
      have n1 := Same.new ht1 (.tup [V.str "put", .str qq.1, .str u])
      refine ⟨by show 1 ≤ sizeLine; decide, fun t2 ht2 => ?_⟩
      have n2 := Same.new ht2 (.tup [V.ref t1])
      have n12 := n1.trans n2
      refine ⟨_, rfl, 1, rfl, ?_⟩
      try dsimp only [tNoPart]
      refine sl_all (SqT.same n12 (SqT.tk tk3 hZ)) fun c1 H4 n4 g1 => ?_
      have g1' : SqT K H4 c1 (zs.drop 1) := by rw [← cut_from _ 1]; exact g1
      have n14 := n12.trans n4
      have ht1S : SqT K H4 t1 [V.str "put", .str qq.1, .str u] := SqT.same (n2.trans n4) (SqT.of upd_same)
      refine cat_all (SqT.same n4 (SqT.of upd_same)) g1' (Nat.le_of_lt (small1000 (by rw [List.length_drop]; show 1 + _ ≤ 1000; omega))) (fun c2 H5 n5 hc2 => ?_)
      have n15 := n14.trans n5
      have tk5 := tk3.trans (TK.of_same n15)
      have hRow : Tn K H5 (.ref c2) (.tuple (rowsD (putIn qq.1 u qq.2))) := by
        have e : rowsD (putIn qq.1 u qq.2) = [PyData.tuple [.str "put", .str qq.1, .str u]] ++ (rowsD qq.2).drop 1 := by
          unfold putIn
          cases qq.2 with
          | nil => simp [rowsD, rowD]
          | cons a l => simp [rowsD, rowD]
        rw [e]
        exact .tup hc2 (TnAll.append (.cons (.tup (SqT.same n5 ht1S) (.cons (.str _) (.cons (.str _) (.cons (.str _) .nil)))) .nil) (TnAll.dropN 1 (TnAll.keep tk5 hZT)))
      have k05 := k03.trans (Same.keep n15 st)
      have o5 := stGo o3 n15
      refine ⟨_, rfl, _, rfl, pa, _, 2, _, rfl, rfl, SqT.tk tk5 hP, rfl, _, rfl, (j : Nat), rfl, ?_⟩
      refine sl_all (SqT.tk tk5 hA) fun c3 H6 n6 g3 => ?_
      rw [cut_to _ _ (by omega)] at g3
      refine ⟨_, rfl, _, rfl, by show 2 ≤ sizeLine; decide, fun t3 ht3 => ?_⟩
      have n7 := Same.new ht3 (.tup [V.str qq.1, .ref c2])
      refine ⟨by show 1 ≤ sizeLine; decide, fun t4 ht4 => ?_⟩
      have n8 := Same.new ht4 (.tup [V.ref t3])
      refine cat_all (SqT.same (n7.trans n8) g3) (SqT.of upd_same) (Nat.le_of_lt (small1000 (by rw [List.length_take]; show min _ xs.length + 1 ≤ 1000; omega))) (fun c5 H9 n9 hc5 => ?_)
      have n69 := ((n6.trans n7).trans n8).trans n9
      have ht3S : SqT K H9 t3 [V.str qq.1, .ref c2] := SqT.same (n8.trans n9) (SqT.of upd_same)
      have tk9 := tk5.trans (TK.of_same n69)
      refine ⟨_, rfl, _, rfl, pa, _, 2, _, rfl, rfl, SqT.tk tk9 hP, rfl, _, rfl, (j : Nat), 1, rfl, rfl, (j : Nat) + 1, rfl, ?_⟩
      try dsimp only [tNoPart]
      refine sl_all (SqT.tk tk9 hA) fun c6 H10 n10 g6 => ?_
      rw [show ((j : Nat) : Int) + 1 = ((j + 1 : Nat) : Int) by omega, cut_from] at g6
      refine cat_all (SqT.same n10 hc5) g6 (Nat.le_of_lt (small1000 (by rw [List.length_append, List.length_take, List.length_drop]; show min _ xs.length + 1 + (xs.length - (j + 1)) ≤ 1000; omega))) (fun c4 H11 n11 hc4 => ?_)
      have n1011 := n10.trans n11
      have n611 := n69.trans n1011
      have k11 := k05.trans (Same.keep n611 st)
      have o11 := stGo o5 n611
      have el11 : H11 l = some (.lst [v1, v2, v3, v4]) := n611 _ _ (n15 _ _ (k3 _ _ nl (k2 _ _ nl e1)))
      have tk11 := tk9.trans (TK.of_same n1011)
      have tkg : TK H1 H11 := ((((TK.of_keep k2 st1.chg).trans (TK.of_keep k3 o2.chg)).trans (TK.of_same n15)).trans (TK.of_same n611))
      refine ⟨_, rfl, _, rfl, l, _, 2, 2, rfl, rfl, el11, rfl, ?_⟩
      have tk : TK H11 (upd H11 l (.lst [v1, v2, .ref c4, v4])) := TK.upd (by rw [el11]; trivial)
      have tk0 := tkg.trans tk
      have esp : p1.derived = p1.derived.take j ++ qq :: p1.derived.drop (j + 1) := by
        have hj : j < p1.derived.length := (List.getElem?_eq_some_iff.mp hq).1
        have h1 : p1.derived[j] = qq := by rw [List.getElem?_eq_getElem hj] at hq; exact Option.some.inj hq
        rw [← h1, ← List.drop_eq_getElem_cons hj, List.take_append_drop]
      have hAll : TnAll K H11 (xs.take j ++ [.ref t3] ++ xs.drop (j + 1)) ((p1.derived.take j ++ (qq.1, putIn qq.1 u qq.2) :: p1.derived.drop (j + 1)).map Td.pairD) := by
        have e : (p1.derived.take j ++ (qq.1, putIn qq.1 u qq.2) :: p1.derived.drop (j + 1)).map Td.pairD = (p1.derived.map Td.pairD).take j ++ [PyData.tuple [.str qq.1, .tuple (rowsD (putIn qq.1 u qq.2))]] ++ (p1.derived.map Td.pairD).drop (j + 1) := by
          rw [List.map_append, List.map_cons, List.map_take, List.map_drop, List.append_assoc]; rfl
        rw [e]
        exact TnAll.append (TnAll.append (TnAll.takeN j (TnAll.keep tk11 hTA)) (.cons (.tup (SqT.same n1011 ht3S) (.cons (.str _) (.cons (Tn.same n611 hRow) .nil))) .nil)) (TnAll.dropN (j + 1) (TnAll.keep tk11 hTA))
      refine ⟨_, rfl, done (p1 := { p1 with derived := p1.derived.take j ++ (qq.1, putIn qq.1 u qq.2) :: p1.derived.drop (j + 1) }) ?_ (o11.other nl (hst.ne hl).2) upd_same (Ok_midD ok hm2 esp hum) (Tn.keep tk0 gW) (Tn.keep tk0 gS) (.tup (SqT.tk tk hc4) (TnAll.keep tk hAll)) (Tn.keep tk0 gE)⟩
      exact Keep.own k11 hl
    · obtain ⟨ad, xs, rfl, hA, hTA⟩ := Tn.tup_inv h4
      have xl : xs.length = p1.effects.length := by have := hTA.length; rwa [List.length_map] at this
      refine ⟨_, rfl, _, rfl, pa, _, 3, _, rfl, rfl, SqT.same s1 hP, rfl, .ref ad, _, rfl, .inr ⟨_, SqT.same s1 hA, rfl⟩, _, _, rfl, rfl, _, rfl, ?_⟩
      by_cases c0 : xs.length = 0
      · refine if_false_of (decide_eq_false (by omega)) ?_
        exact ⟨_, rfl, done (Same.keep s1 st) (stGo hst s1) e1 ok1 gW gS gD gE⟩
      refine if_true_of (decide_eq_true (by omega)) ?_
      have st1 := stGo hst s1
      refine ⟨_, rfl, _, rfl, _, rfl, pa, _, 3, _, rfl, rfl, SqT.same s1 hP, rfl, .ref ad, _, rfl, .inr ⟨_, SqT.same s1 hA, rfl⟩, st, sc, _, rfl, by omega, by omega, st1, fun r H2 r0 r1 k2 o2 _ => ?_⟩
      obtain ⟨j, rfl⟩ : ∃ j : Nat, r = (j : Nat) := ⟨r.toNat, by omega⟩
      have jl : j < xs.length := by omega
      have k02 : Keep st H H2 := (Same.keep s1 st).trans k2
      have tk2 := TK.of_keep k02 hst.chg
      have hix : xs[j]? = some xs[j] := List.getElem?_eq_getElem jl
      obtain ⟨dd, hd1, hd2⟩ := TnAll.get hTA hix
      rw [List.getElem?_map] at hd1
      obtain ⟨qq, hq, rfl⟩ := Option.map_eq_some_iff.mp hd1
      obtain ⟨b, es, eb, hB, hEs⟩ := Tn.tup_inv hd2
      obtain ⟨vr, rfl, hVr⟩ : ∃ vr, es = [.str qq.1, vr] ∧ Tn K H vr (.tuple (rowsD qq.2)) := by
        cases hEs with
        | cons a1 a2 =>
          cases a1
          cases a2 with
          | cons a3 a4 => cases a4; exact ⟨_, rfl, a3⟩
      obtain ⟨ar, zs, rfl, hZ, hZT⟩ := Tn.tup_inv hVr
      have zl : zs.length ≤ 100 := by
        have e1 := hZT.length
        rw [rowsD_length] at e1
        have e2 := cnts_len qq.2
        have e3 : cnts qq.2 ≤ m := (okEff_lim ok.eff (List.mem_of_getElem? hq)).1
        omega
      rw [eb] at hix
      refine ⟨_, rfl, _, rfl, pa, _, 3, _, rfl, rfl, SqT.tk tk2 hP, rfl, _, rfl, ad, _, (j : Nat), .ref b, rfl, rfl, SqT.tk tk2 hA, atI_nat hix, b, _, rfl, SqT.tk tk2 hB, rfl, _, _, rfl, _, _, rfl, rfl, ?_⟩
      refine ⟨_, rfl, _, rfl, pa, _, 0, _, rfl, rfl, SqT.tk tk2 hP, rfl, _, rfl, _, rfl, pa, _, 0, _, rfl, rfl, SqT.tk tk2 hP, rfl, .ref aw, _, rfl, .inr ⟨_, SqT.tk tk2 h1, rfl⟩, st, sc, _, rfl, by rw [List.length_map]; omega, by rw [List.length_map]; omega, o2, fun y H3 y0 y1 k3 o3 _ => ?_⟩
      rw [List.length_map] at y1
      have yl : y.toNat < p1.words.length := by omega
      have k03 := k02.trans k3
      have tk3 := TK.of_keep k03 hst.chg
      refine ⟨aw, _, y, _, rfl, rfl, SqT.tk tk3 h1, at_word y0 yl, by show 3 ≤ sizeLine; decide, fun t1 ht1 => ?_⟩
      generalize hu : p1.words[y.toNat] = u
      have hum : u ∈ p1.words := by rw [← hu]; exact List.getElem_mem _
      have n1 := Same.new ht1 (.tup [V.str "put", .str qq.1, .str u])
      refine ⟨by show 1 ≤ sizeLine; decide, fun t2 ht2 => ?_⟩
      have n2 := Same.new ht2 (.tup [V.ref t1])
      have n12 := n1.trans n2
      refine ⟨_, rfl, 1, rfl, ?_⟩
      try dsimp only [tNoPart]
      refine sl_all (SqT.same n12 (SqT.tk tk3 hZ)) fun c1 H4 n4 g1 => ?_
      have g1' : SqT K H4 c1 (zs.drop 1) := by rw [← cut_from _ 1]; exact g1
      have n14 := n12.trans n4
      have ht1S : SqT K H4 t1 [V.str "put", .str qq.1, .str u] := SqT.same (n2.trans n4) (SqT.of upd_same)
      refine cat_all (SqT.same n4 (SqT.of upd_same)) g1' (Nat.le_of_lt (small1000 (by rw [List.length_drop]; show 1 + _ ≤ 1000; omega))) (fun c2 H5 n5 hc2 => ?_)
      have n15 := n14.trans n5
      have tk5 := tk3.trans (TK.of_same n15)
      have hRow : Tn K H5 (.ref c2) (.tuple (rowsD (putIn qq.1 u qq.2))) := by
        have e : rowsD (putIn qq.1 u qq.2) = [PyData.tuple [.str "put", .str qq.1, .str u]] ++ (rowsD qq.2).drop 1 := by
          unfold putIn
          cases qq.2 with
          | nil => simp [rowsD, rowD]
          | cons a l => simp [rowsD, rowD]
        rw [e]
        exact .tup hc2 (TnAll.append (.cons (.tup (SqT.same n5 ht1S) (.cons (.str _) (.cons (.str _) (.cons (.str _) .nil)))) .nil) (TnAll.dropN 1 (TnAll.keep tk5 hZT)))
      have k05 := k03.trans (Same.keep n15 st)
      have o5 := stGo o3 n15
      refine ⟨_, rfl, _, rfl, pa, _, 3, _, rfl, rfl, SqT.tk tk5 hP, rfl, _, rfl, (j : Nat), rfl, ?_⟩
      refine sl_all (SqT.tk tk5 hA) fun c3 H6 n6 g3 => ?_
      rw [cut_to _ _ (by omega)] at g3
      refine ⟨_, rfl, _, rfl, by show 2 ≤ sizeLine; decide, fun t3 ht3 => ?_⟩
      have n7 := Same.new ht3 (.tup [V.str qq.1, .ref c2])
      refine ⟨by show 1 ≤ sizeLine; decide, fun t4 ht4 => ?_⟩
      have n8 := Same.new ht4 (.tup [V.ref t3])
      refine cat_all (SqT.same (n7.trans n8) g3) (SqT.of upd_same) (Nat.le_of_lt (small1000 (by rw [List.length_take]; show min _ xs.length + 1 ≤ 1000; omega))) (fun c5 H9 n9 hc5 => ?_)
      have n69 := ((n6.trans n7).trans n8).trans n9
      have ht3S : SqT K H9 t3 [V.str qq.1, .ref c2] := SqT.same (n8.trans n9) (SqT.of upd_same)
      have tk9 := tk5.trans (TK.of_same n69)
      refine ⟨_, rfl, _, rfl, pa, _, 3, _, rfl, rfl, SqT.tk tk9 hP, rfl, _, rfl, (j : Nat), 1, rfl, rfl, (j : Nat) + 1, rfl, ?_⟩
      try dsimp only [tNoPart]
      refine sl_all (SqT.tk tk9 hA) fun c6 H10 n10 g6 => ?_
      rw [show ((j : Nat) : Int) + 1 = ((j + 1 : Nat) : Int) by omega, cut_from] at g6
      refine cat_all (SqT.same n10 hc5) g6 (Nat.le_of_lt (small1000 (by rw [List.length_append, List.length_take, List.length_drop]; show min _ xs.length + 1 + (xs.length - (j + 1)) ≤ 1000; omega))) (fun c4 H11 n11 hc4 => ?_)
      have n1011 := n10.trans n11
      have n611 := n69.trans n1011
      have k11 := k05.trans (Same.keep n611 st)
      have o11 := stGo o5 n611
      have el11 : H11 l = some (.lst [v1, v2, v3, v4]) := n611 _ _ (n15 _ _ (k3 _ _ nl (k2 _ _ nl e1)))
      have tk11 := tk9.trans (TK.of_same n1011)
      have tkg : TK H1 H11 := ((((TK.of_keep k2 st1.chg).trans (TK.of_keep k3 o2.chg)).trans (TK.of_same n15)).trans (TK.of_same n611))
      refine ⟨_, rfl, _, rfl, l, _, 3, 3, rfl, rfl, el11, rfl, ?_⟩
      have tk : TK H11 (upd H11 l (.lst [v1, v2, v3, .ref c4])) := TK.upd (by rw [el11]; trivial)
      have tk0 := tkg.trans tk
      have esp : p1.effects = p1.effects.take j ++ qq :: p1.effects.drop (j + 1) := by
        have hj : j < p1.effects.length := (List.getElem?_eq_some_iff.mp hq).1
        have h1 : p1.effects[j] = qq := by rw [List.getElem?_eq_getElem hj] at hq; exact Option.some.inj hq
        rw [← h1, ← List.drop_eq_getElem_cons hj, List.take_append_drop]
      have hAll : TnAll K H11 (xs.take j ++ [.ref t3] ++ xs.drop (j + 1)) ((p1.effects.take j ++ (qq.1, putIn qq.1 u qq.2) :: p1.effects.drop (j + 1)).map Td.pairD) := by
        have e : (p1.effects.take j ++ (qq.1, putIn qq.1 u qq.2) :: p1.effects.drop (j + 1)).map Td.pairD = (p1.effects.map Td.pairD).take j ++ [PyData.tuple [.str qq.1, .tuple (rowsD (putIn qq.1 u qq.2))]] ++ (p1.effects.map Td.pairD).drop (j + 1) := by
          rw [List.map_append, List.map_cons, List.map_take, List.map_drop, List.append_assoc]; rfl
        rw [e]
        exact TnAll.append (TnAll.append (TnAll.takeN j (TnAll.keep tk11 hTA)) (.cons (.tup (SqT.same n1011 ht3S) (.cons (.str _) (.cons (Tn.same n611 hRow) .nil))) .nil)) (TnAll.dropN (j + 1) (TnAll.keep tk11 hTA))
      refine ⟨_, rfl, done (p1 := { p1 with effects := p1.effects.take j ++ (qq.1, putIn qq.1 u qq.2) :: p1.effects.drop (j + 1) }) ?_ (o11.other nl (hst.ne hl).2) upd_same (Ok_midE ok hm2 esp hum) (Tn.keep tk0 gW) (Tn.keep tk0 gS) (Tn.keep tk0 gD) (.tup (SqT.tk tk hc4) (TnAll.keep tk hAll))⟩
      exact Keep.own k11 hl
  · refine if_false_of (decide_eq_false (by omega)) (if_false_of rfl ?_)
    exact ⟨_, rfl, done (Same.keep s1 st) (stGo hst s1) e1 ok1 gW gS gD gE⟩
end
end K01
namespace K01
open PySem PySem.Spec PyProof.Rows L2 Td
theorem free_of {H0 H : Hp} {a : Addr} (s : Same H0 H) (h : H a = none) : H0 a = none := by
  cases e : H0 a with
  | none => rfl
  | some o => rw [s _ _ e] at h; cases h
theorem fresh_same {H H1 H' : Hp} {st : Addr} (s : Same H H1) (f : H st = none) (k : Keep st H1 H') : Same H H' := fun b o e => k b o (fun z => by rw [z, f] at e; cases e) (s b o e)
theorem pairs_all {K : PySem.W.Frag} {H : Hp} {v : V} {ps : List (Str × List Td.Row)} (h : Tn K H v (pairsD ps)) : ∃ (a : Addr) (xs : List V), v = .ref a ∧ SqT K H a xs ∧ xs.length = ps.length ∧ TnAll K H xs (ps.map Td.pairD) ∧
    ∀ (i : Nat) (x : V), xs[i]? = some x → ∃ q b vr, ps[i]? = some q ∧ x = .ref b ∧ SqT K H b [.str q.1, vr] ∧ Tn K H vr (.tuple (rowsD q.2)) := by
  obtain ⟨a, xs, rfl, hS, hT⟩ := Tn.tup_inv h
  refine ⟨a, xs, rfl, hS, by have := hT.length; rwa [List.length_map] at this, hT, fun i x hi => ?_⟩
  obtain ⟨d, hd, hx⟩ := TnAll.get hT hi
  rw [List.getElem?_map] at hd
  obtain ⟨q, hq, rfl⟩ := Option.map_eq_some_iff.mp hd
  obtain ⟨b, es, rfl, hB, hEs⟩ := Tn.tup_inv hx
  cases hEs with
  | cons a1 a2 =>
    cases a1
    cases a2 with
    | cons a3 a4 => cases a4; exact ⟨q, b, _, hq, rfl, hB, a3⟩
def spEq (K : PySem.W.Frag) (C : Addr) : Sp := fun vs H Q _ => ∃ (a b : Addr) (p p' : PP) (m m' : Nat), vs = [.ref a, .ref b] ∧ ProgAt K H C a p ∧ ProgAt K H C b p' ∧ p.Ok m ∧ p'.Ok m' ∧ ∀ H', Same H H' → Q (.bl (PyData.eqv p.data p'.data)) H'
theorem eqv_data (p p' : PP) : PyData.eqv p.data p'.data = (PyData.eqv (strsD p.words) (strsD p'.words) && (PyData.eqv (strsD p.sources) (strsD p'.sources) && (PyData.eqv (pairsD p.derived) (pairsD p'.derived) && PyData.eqv (pairsD p.effects) (pairsD p'.effects)))) := by
  unfold PP.data
  simp only [PyData.eqv, PyData.eqvAll, Bool.and_true]
theorem ProgAt.keep {K : PySem.W.Frag} {H H' : Hp} {C pa st : Addr} {p : PP} (h : ProgAt K H C pa p) (k : Keep st H H') (n : pa ≠ st) (ch : Chg (H st)) : ProgAt K H' C pa p := by
  obtain ⟨dx, aw, as, vd, ve, ⟨dn, en, e, hdn, hen⟩, h1, h2, h3, h4⟩ := h.ex
  have tk := TK.of_keep k ch
  exact ⟨dx, aw, as, vd, ve, ⟨dn, en, k _ _ n e, SqT.tk tk hdn, SqT.tk tk hen⟩, SqT.tk tk h1, SqT.tk tk h2, Tn.keep tk h3, Tn.keep tk h4⟩
section
variable {P : Program} {w : World} {K : PySem.W.Frag} {mg : Str → Option Value} {base : Heap}
theorem ok_prog_eq (T : Tops w K mg) : FnOk P w K mg base CX0 1 T.a_Program_eq T.d_Program_eq ["self", "other"] (spEq K T.c_Program) := by
  refine T.F_Program_eq.ok sc_Program_eq (fun vs H Q E h => ?_) (fun cdv A outer s H vs Q E hr h => ?_)
  · obtain ⟨a, b, p, p', m, m', rfl, _⟩ := h
    rfl
  obtain ⟨a, b, p, p', m, m', rfl, hP, hP', ok, ok', q⟩ := h
  obtain ⟨dx, aw, as, vd, ve, ⟨dn, en, e, hdn, hen⟩, h1, h2, h3, h4⟩ := hP.ex
  obtain ⟨dx', aw', as', vd', ve', ⟨dn', en', e', hdn', hen'⟩, g1, g2, g3, g4⟩ := hP'.ex
  rw [eqv_data] at q
  refine ⟨_, (pss_one (ps_ret (pe_and (pe_callB (C8.call_isC T.i_Program) rfl T.z_isinstance (by decide +kernel) (pa_cons (pv 1) (pa_cons (pe_glob (v := .ref T.c_Program) rfl T.m_Program rfl) pa_nil))) (pe_and (pe_cmpR (op_eqD hr.units) (pe_fld (pv 0) rfl) (pe_fld (pv 1) rfl) (nomark _)) (pe_and (pe_cmpR (op_eqD hr.units) (pe_fld (pv 0) rfl) (pe_fld (pv 1) rfl) (nomark _)) (pe_and (pe_cmpR (op_eqD hr.units) (pe_fld (pv 0) rfl) (pe_fld (pv 1) rfl) (nomark _)) (pe_one (pe_cmpR (op_eqD hr.units) (pe_fld (pv 0) rfl) (pe_fld (pv 1) rfl) (nomark _))))))))), ?_⟩
  refine ⟨_, rfl, b, dx', _, rfl, e', true, rfl, iteT ?_⟩
  refine ⟨_, rfl, a, _, dx, _, _, rfl, e, T.l_Program, T.n_Program_words, progF_words .., _, rfl, b, _, dx', _, _, rfl, e', T.l_Program, T.n_Program_words, progF_words .., strsD p.words, strsD p'.words, .tup h1 (DpAll.strs _), .tup g1 (DpAll.strs _), shape_of (strs_layD (Ok_words ok)).1 (by have := (strs_layD (Ok_words ok)).2; omega), shape_of (strs_layD (Ok_words ok')).1 (by have := (strs_layD (Ok_words ok')).2; omega), _, rfl, ?_⟩
  cases hb0 : PyData.eqv (strsD p.words) (strsD p'.words) with
  | false => rw [hb0] at q; exact if_false_of rfl (q H (Same.refl _))
  | true =>
  rw [hb0] at q
  refine if_true_of rfl ?_
  refine ⟨_, rfl, a, _, dx, _, _, rfl, e, T.l_Program, T.n_Program_sources, progF_sources .., _, rfl, b, _, dx', _, _, rfl, e', T.l_Program, T.n_Program_sources, progF_sources .., strsD p.sources, strsD p'.sources, .tup h2 (DpAll.strs _), .tup g2 (DpAll.strs _), shape_of (strs_layD (Ok_sources ok)).1 (by have := (strs_layD (Ok_sources ok)).2; omega), shape_of (strs_layD (Ok_sources ok')).1 (by have := (strs_layD (Ok_sources ok')).2; omega), _, rfl, ?_⟩
  cases hb1 : PyData.eqv (strsD p.sources) (strsD p'.sources) with
  | false => rw [hb1] at q; exact if_false_of rfl (q H (Same.refl _))
  | true =>
  rw [hb1] at q
  refine if_true_of rfl ?_
  refine ⟨_, rfl, a, _, dx, _, _, rfl, e, T.l_Program, T.n_Program_derived, progF_derived .., _, rfl, b, _, dx', _, _, rfl, e', T.l_Program, T.n_Program_derived, progF_derived .., pairsD p.derived, pairsD p'.derived, Tn.dp h3, Tn.dp g3, shape_of (Ok_derD ok).1 (by have := (Ok_derD ok).2; omega), shape_of (Ok_derD ok').1 (by have := (Ok_derD ok').2; omega), _, rfl, ?_⟩
  cases hb2 : PyData.eqv (pairsD p.derived) (pairsD p'.derived) with
  | false => rw [hb2] at q; exact if_false_of rfl (q H (Same.refl _))
  | true =>
  rw [hb2] at q
  refine if_true_of rfl ?_
  refine ⟨_, rfl, a, _, dx, _, _, rfl, e, T.l_Program, T.n_Program_effects, progF_effects .., _, rfl, b, _, dx', _, _, rfl, e', T.l_Program, T.n_Program_effects, progF_effects .., pairsD p.effects, pairsD p'.effects, Tn.dp h4, Tn.dp g4, shape_of (Ok_effD ok).1 (by have := (Ok_effD ok).2; omega), shape_of (Ok_effD ok').1 (by have := (Ok_effD ok').2; omega), ?_⟩
  exact q H (Same.refl _)
def spPart (K : PySem.W.Frag) : Sp := fun vs H Q _ => ∃ (a : Addr) (ns : List Int), vs = [.ref a] ∧ SqL K H a (ns.map V.int) ∧ ns.length ≤ 63 ∧ ∀ H', Same H H' → Q (.bl true) H'
theorem ok_law_first (T : Tops w K mg)
    (G__law_state : FnOk P w K mg base CX0 1 T.a__law_state T.d__law_state ["_law_script"] (spState K))
    (G__law_draw : FnOk P w K mg base CX0 1 T.a__law_draw T.d__law_draw ["_law_state_here", "_law_many_here"] spDraw)
    (G__law_parts : FnOk P w K mg base CX0 11 T.a__law_parts T.d__law_parts ["_law_state_here", "_law_sizes", "_law_peeks", "_law_writes"] (spParts K))
    (G_Program_init : FnOk P w K mg base CX0 10 T.a_Program_init T.d_Program_init ["self", "words", "sources", "derived", "effects"] (spProgram K T.c_Program))
    (G_Program_cells : FnOk P w K mg base CX0 2 T.a_Program_cells T.d_Program_cells ["self"] (spCells K T.c_Program))
    (G_Program_derived_names : FnOk P w K mg base CX0 2 T.a_Program_derived_names T.d_Program_derived_names ["self"] (spDerivedNames K T.c_Program))
    (G_Program_effect_names : FnOk P w K mg base CX0 2 T.a_Program_effect_names T.d_Program_effect_names ["self"] (spEffectNames K T.c_Program))
    (G_Program_body : FnOk P w K mg base CX0 1 T.a_Program_body T.d_Program_body ["self", "name"] (spBodyOf K T.c_Program))
    (G__law_unknown : FnOk P w K mg base CX0 4 T.a__law_unknown T.d__law_unknown ["_law_program", "_law_name"] (spUnk K T.c_Program))
    (G_Program_row_paths : FnOk P w K mg base CX0 5 T.a_Program_row_paths T.d_Program_row_paths ["self"] (spRowPaths K T.c_Program))
    (G__law_paths : FnOk P w K mg base CX0 5 T.a__law_paths T.d__law_paths ["_law_parts_here"] (spLawPaths K))
    (G__law_other : FnOk P w K mg base CX0 2 T.a__law_other T.d__law_other ["_law_parts_here", "_law_part", "_law_state_here"] (spOther K))
    (G_Program_eq : FnOk P w K mg base CX0 1 T.a_Program_eq T.d_Program_eq ["self", "other"] (spEq K T.c_Program)) :
    FnOk P w K mg base CX0 12 T.a__law_first_part T.d__law_first_part ["_law_script"] (spPart K) := by
  refine T.F__law_first_part.ok sc_law_first_part (fun vs H Q E h => ?_) (fun cdv A outer s H vs Q E hr h => ?_)
  · obtain ⟨a, ns, rfl, _⟩ := h
    rfl
  obtain ⟨a, ns, rfl, hN, hlen, q⟩ := h
  refine ⟨_, (pss_cons (ps_set (i := 1) sc_law_first_part.nd rfl (Or.inl rfl) (pe_call G__law_state (hr.mono (by omega)) rfl T.m__law_state T.F__law_state.kp T.b__law_state .nil pass0 (pa_cons (pv 0) pa_nil)))
    (pss_cons (ps_set (i := 2) sc_law_first_part.nd rfl (Or.inl rfl) (pe_call G__law_draw (hr.mono (by omega)) rfl T.m__law_draw T.F__law_draw.kp T.b__law_draw .nil pass0 (pa_cons (pv 1) (pa_cons pe_int pa_nil))))
    (pss_cons (ps_set (i := 3) sc_law_first_part.nd rfl (Or.inl rfl) (pe_call G__law_parts (hr.mono (by omega)) rfl T.m__law_parts T.F__law_parts.kp T.b__law_parts .nil pass0 (pa_cons (pv 1) (pa_cons (pe_lst (pa_cons pe_int (pa_cons pe_int (pa_cons pe_int (pa_cons pe_int (pa_cons pe_int pa_nil)))))) (pa_cons pe_bl (pa_cons pe_bl pa_nil))))))
    (pss_cons (ps_set (i := 4) sc_law_first_part.nd rfl (Or.inl rfl) (pe_make T.k_Program G_Program_init (hr.mono (by omega)) rfl T.m_Program T.b_Program_init .nil pass0 (pa_cons (pe_ix ix_tup (pv 3) pe_int (fun _ _ => rfl)) (pa_cons (pe_ix ix_tup (pv 3) pe_int (fun _ _ => rfl)) (pa_cons (pe_ix ix_tup (pv 3) pe_int (fun _ _ => rfl)) (pa_cons (pe_ix ix_tup (pv 3) pe_int (fun _ _ => rfl)) pa_nil))))))
    (pss_cons (ps_if (PW.pt (pw_or (pt_cmpR (op_neD hr.units) (pe_fld (pv 4) rfl) (pe_ix ix_tup (pv 3) pe_int (fun _ _ => rfl)) (nomark _)) (pw_or1 (pt_cmpR (op_neD hr.units) (pe_fld (pv 4) rfl) (pe_ix ix_tup (pv 3) pe_int (fun _ _ => rfl)) (nomark _))))) (pss_one (ps_ret pe_bl)) pss_nil)
    (pss_cons (ps_if (PW.pt (pw_or (pt_cmpR (op_neD hr.units) (pe_fld (pv 4) rfl) (pe_ix ix_tup (pv 3) pe_int (fun _ _ => rfl)) (nomark _)) (pw_or1 (pt_cmpR (op_neD hr.units) (pe_fld (pv 4) rfl) (pe_ix ix_tup (pv 3) pe_int (fun _ _ => rfl)) (nomark _))))) (pss_one (ps_ret pe_bl)) pss_nil)
    (pss_cons (ps_set (i := 5) sc_law_first_part.nd rfl (Or.inl rfl) (pe_callTy call_tuple_of rfl T.z_tuple (by decide +kernel) (pa_cons (pe_lc (own := [("_law_pair", 7)]) (g := gName 7) (tt := tYes) (te := tOp (rIxT K) (tVar 7) (tC (.int 0))) rfl sc_law_first_part.nd (pi_tup (pe_ix ix_tup (pv 3) pe_int (fun _ _ => rfl))) (blkOk_by (own := [("_law_pair", 7)]) (N := N_law_first_part) (sc := defScope s_law_first_part) (by decide +kernel)) (fun _ _ _ _ _ => (pg_name (i := 7) sc_law_first_part.nd rfl (Or.inl rfl))) (fun _ _ _ _ _ => pts_nil) (fun _ _ _ _ _ => (pe_ix ix_tup (pv 7) pe_int (fun _ _ => rfl)))) pa_nil)))
    (pss_cons (ps_set (i := 6) sc_law_first_part.nd rfl (Or.inl rfl) (pe_callTy call_tuple_of rfl T.z_tuple (by decide +kernel) (pa_cons (pe_lc (own := [("_law_pair", 7)]) (g := gName 7) (tt := tYes) (te := tOp (rIxT K) (tVar 7) (tC (.int 0))) rfl sc_law_first_part.nd (pi_tup (pe_ix ix_tup (pv 3) pe_int (fun _ _ => rfl))) (blkOk_by (own := [("_law_pair", 7)]) (N := N_law_first_part) (sc := defScope s_law_first_part) (by decide +kernel)) (fun _ _ _ _ _ => (pg_name (i := 7) sc_law_first_part.nd rfl (Or.inl rfl))) (fun _ _ _ _ _ => pts_nil) (fun _ _ _ _ _ => (pe_ix ix_tup (pv 7) pe_int (fun _ _ => rfl)))) pa_nil)))
    (pss_cons (ps_if (pt_cmpR (op_neD hr.units) (pe_meth0 (pv 4) T.l_Program T.t_Program_cells G_Program_cells (hr.mono (by omega)) T.b_Program_cells .nil pass0) (pe_op op_catA (pe_ix ix_tup (pv 3) pe_int (fun _ _ => rfl)) (pv 5)) (nomark _)) (pss_one (ps_ret pe_bl)) pss_nil)
    (pss_cons (ps_if (PW.pt (pw_or (pt_cmpR (op_neD hr.units) (pe_meth0 (pv 4) T.l_Program T.t_Program_derived_names G_Program_derived_names (hr.mono (by omega)) T.b_Program_derived_names .nil pass0) (pv 5) (nomark _)) (pw_or1 (pt_cmpR (op_neD hr.units) (pe_meth0 (pv 4) T.l_Program T.t_Program_effect_names G_Program_effect_names (hr.mono (by omega)) T.b_Program_effect_names .nil pass0) (pv 6) (nomark _))))) (pss_one (ps_ret pe_bl)) pss_nil)
    (pss_cons (ps_for PassesOwn.never rfl (pi_tup (pe_op op_catA (pe_ix ix_tup (pv 3) pe_int (fun _ _ => rfl)) (pe_ix ix_tup (pv 3) pe_int (fun _ _ => rfl)))) (pg_name (i := 7) sc_law_first_part.nd rfl (Or.inl rfl)) (pss_one (ps_if (pt_cmpR (op_neD hr.units) (pe_meth (pv 4) T.l_Program T.t_Program_body G_Program_body (hr.mono (by omega)) T.b_Program_body .nil pass0 (pa_cons (pe_ix ix_tup (pv 7) pe_int (fun _ _ => rfl)) pa_nil)) (pe_ix ix_tup (pv 7) pe_int (fun _ _ => rfl)) (nomark _)) (pss_one (ps_ret pe_bl)) pss_nil)))
    (pss_cons (ps_for PassesOwn.never rfl (pi_tup (pe_ix ix_tup (pv 3) pe_int (fun _ _ => rfl))) (pg_name (i := 8) sc_law_first_part.nd rfl (Or.inl rfl)) (pss_one (ps_if (pt_not (pt_val (pe_call G__law_unknown (hr.mono (by omega)) rfl T.m__law_unknown T.F__law_unknown.kp T.b__law_unknown .nil pass0 (pa_cons (pv 4) (pa_cons (pv 8) pa_nil))))) (pss_one (ps_ret pe_bl)) pss_nil)))
    (pss_cons (ps_for PassesOwn.never rfl (pi_range1 rfl T.z_range (pa_cons pe_int pa_nil)) (pg_name (i := 9) sc_law_first_part.nd rfl (Or.inl rfl)) (pss_cons (ps_set (i := 10) sc_law_first_part.nd rfl (Or.inl rfl) (pe_meth0 (pv 4) T.l_Program T.t_Program_row_paths G_Program_row_paths (hr.mono (by omega)) T.b_Program_row_paths .nil pass0))
    (pss_cons (ps_if (PW.pt (pw_or (pt_not (pt_val (pe_callB call_isi rfl T.z_isinstance (by decide +kernel) (pa_cons (pv 10) (pa_cons (pe_bltn (v := .ty "list") rfl T.z_list (by decide +kernel) rfl) pa_nil))))) (pw_or1 (pt_cmpR (op_neD hr.units) (pv 10) (pe_call G__law_paths (hr.mono (by omega)) rfl T.m__law_paths T.F__law_paths.kp T.b__law_paths .nil pass0 (pa_cons (pv 3) pa_nil)) (nomark _))))) (pss_one (ps_ret pe_bl)) pss_nil)
    (pss_one (ps_expr (pe_bm PySem.F.plainAttrs_list PySem.F.slot_list_append PySem.F.type_list_append mt_append (pv 10) (pa_cons (pe_tup (pa_cons pe_str (pa_cons pe_int pa_nil))) pa_nil)))))))
    (pss_cons (ps_set (i := 11) sc_law_first_part.nd rfl (Or.inl rfl) (pv 3))
    (C8.pss_cut (ps_if (pt_cmpR op_lt (pv 2) pe_int (nomark _)) (pss_one (ps_set (i := 11) sc_law_first_part.nd rfl (Or.inl rfl) (pe_call G__law_other (hr.mono (by omega)) rfl T.m__law_other T.F__law_other.kp T.b__law_other .nil pass0 (pa_cons (pv 3) (pa_cons (pv 2) (pa_cons (pv 1) pa_nil)))))) pss_nil)
    (pss_cons (ps_set (i := 12) sc_law_first_part.nd rfl (Or.inl rfl) (pe_make T.k_Program G_Program_init (hr.mono (by omega)) rfl T.m_Program T.b_Program_init .nil pass0 (pa_cons (pe_ix ix_tup (pv 11) pe_int (fun _ _ => rfl)) (pa_cons (pe_ix ix_tup (pv 11) pe_int (fun _ _ => rfl)) (pa_cons (pe_ix ix_tup (pv 11) pe_int (fun _ _ => rfl)) (pa_cons (pe_ix ix_tup (pv 11) pe_int (fun _ _ => rfl)) pa_nil))))))
    (pss_one (ps_ret (pe_and (pe_cmpR op_eq (pe_cmpR (op_eqO G_Program_eq T.xq_Program T.xf_Program T.b_Program_eq (hr.mono (by omega))) (pv 4) (pv 12) (nomark _)) (pe_cmpR (op_eqD hr.units) (pv 3) (pv 11) (nomark _)) (nomark _)) (pe_one (pe_cmpR (op_eqO G_Program_eq T.xq_Program T.xf_Program T.b_Program_eq (hr.mono (by omega))) (pv 4) (pv 4) (nomark _)))))))))))))))))))))), ?_⟩
  refine ⟨_, rfl, a, ns, rfl, hN, hlen, fun st sc H1 s1 f1 f2 o1 => ?_⟩
  refine ⟨_, rfl, st, sc, 5, rfl, by decide, by decide, o1, fun pt H2 m0 m1 k2 o2 _ => ?_⟩
  refine ⟨_, rfl, by show 5 ≤ sizeLine; decide, fun z hz => ?_⟩
  have o2' := o2.new (o := .lst [V.int 3, .int 4, .int 6, .int 4, .int 15]) hz
  refine ⟨st, sc, z, 3, 4, 6, 4, 15, true, true, rfl, o2', SqL.of upd_same, (o2.ne hz).1, by decide, by decide, by decide, by decide, by decide, by decide, by decide, by decide, by decide, by decide, fun v p H4 k4 o4 ok0 hD => ?_⟩
  have ok : p.Ok 16 := ok0
  clear ok0
  have k14 : Keep st H1 H4 := (k2.trans (Keep.new hz)).trans k4
  obtain ⟨pa, aw, as, vd, ve, rfl, hP, h1, h2, h3, h4⟩ := parts_at hD
  have w2 := ok.w2
  have w4 := ok.w4
  have s1' := ok.s1
  have s4 := ok.s4
  have e4 := ok.e4
  have d6 := ok.d6
  refine ⟨_, rfl, pa, _, 0, _, rfl, rfl, hP, rfl, _, rfl, pa, _, 1, _, rfl, rfl, hP, rfl, _, rfl, pa, _, 2, _, rfl, rfl, hP, rfl, _, rfl, pa, _, 3, _, rfl, rfl, hP, rfl, fun x dx hx hdx hne => ?_⟩
  have sx : Same H4 (upd (upd H4 dx (.own x)) x (.ins T.c_Program dx [])) := (Same.new hdx _).trans (Same.new (by rw [upd_ne (Ne.symm hne)]; exact hx) _)
  refine ⟨x, dx, aw, as, vd, ve, p, _, rfl, upd_same, SqT.same sx h1, SqT.same sx h2, Tn.same sx h3, Tn.same sx h4, ok, by decide, fun dn en H5 s5 hdn hen => ⟨rfl, ?_⟩⟩
  have s46 : Same H4 (upd H5 x (.ins T.c_Program dx (progF aw as vd ve dn en))) := own_same (sx.trans s5) hx
  have hxA : upd H5 x (.ins T.c_Program dx (progF aw as vd ve dn en)) x = some (.ins T.c_Program dx (progF aw as vd ve dn en)) := upd_same
  have hPr : ProgAt K (upd H5 x (.ins T.c_Program dx (progF aw as vd ve dn en))) T.c_Program x p := ⟨dx, aw, as, vd, ve, ⟨dn, en, upd_same, hdn, hen⟩, SqT.same s46 h1, SqT.same s46 h2, Tn.same s46 h3, Tn.same s46 h4⟩
  try dsimp only
  generalize upd H5 x (.ins T.c_Program dx (progF aw as vd ve dn en)) = H6 at s46 hPr hxA
  have nx : x ≠ st := (o4.ne hx).1
  -- the parts are kept
  refine ⟨_, rfl, x, _, dx, _, _, rfl, hxA, T.l_Program, T.n_Program_words, progF_words .., _, rfl, pa, _, 0, _, rfl, rfl, SqT.same s46 hP, rfl, ne_same (d := strsD p.words) (.tup (SqT.same s46 h1) (DpAll.strs _)) (.tup (SqT.same s46 h1) (DpAll.strs _)) (strs_layD (Ok_words ok)).1 (by have := (strs_layD (Ok_words ok)).2; omega) ⟨_, rfl, if_false_of rfl ?_⟩⟩
  refine ⟨_, rfl, x, _, dx, _, _, rfl, hxA, T.l_Program, T.n_Program_sources, progF_sources .., _, rfl, pa, _, 1, _, rfl, rfl, SqT.same s46 hP, rfl, ne_same (d := strsD p.sources) (.tup (SqT.same s46 h2) (DpAll.strs _)) (.tup (SqT.same s46 h2) (DpAll.strs _)) (strs_layD (Ok_sources ok)).1 (by have := (strs_layD (Ok_sources ok)).2; omega) ⟨_, rfl, if_false_of rfl ?_⟩⟩
  refine ⟨_, rfl, x, _, dx, _, _, rfl, hxA, T.l_Program, T.n_Program_derived, progF_derived .., _, rfl, pa, _, 2, _, rfl, rfl, SqT.same s46 hP, rfl, ne_same (d := pairsD p.derived) (Tn.dp (Tn.same s46 h3)) (Tn.dp (Tn.same s46 h3)) (Ok_derD ok).1 (by have := (Ok_derD ok).2; omega) ⟨_, rfl, if_false_of rfl ?_⟩⟩
  refine ⟨_, rfl, x, _, dx, _, _, rfl, hxA, T.l_Program, T.n_Program_effects, progF_effects .., _, rfl, pa, _, 3, _, rfl, rfl, SqT.same s46 hP, rfl, ne_same (d := pairsD p.effects) (Tn.dp (Tn.same s46 h4)) (Tn.dp (Tn.same s46 h4)) (Ok_effD ok).1 (by have := (Ok_effD ok).2; omega) ⟨_, rfl, if_false_of rfl ?_⟩⟩
  have h3s := h3
  have h4s := h4
  obtain ⟨ad, xs, rfl, hA, hxl, hTA, hxd⟩ := pairs_all h3
  obtain ⟨ae, ys, rfl, hE, hyl, hTE, hye⟩ := pairs_all h4
  refine ⟨_, rfl, pa, _, 2, _, rfl, rfl, SqT.same s46 hP, rfl, ad, rfl, ⟨_, SqT.same s46 hA⟩, fun D hD0 => lc_tup (K := K) (a := ad) (xs := xs) (fun i H' => Same H6 H' ∧ H' D = some (.lst ((p.derived.take i).map fun q => V.str q.1)))
    ⟨Same.new hD0 _, upd_same⟩ (fun i H' _ ⟨hs, _⟩ => SqT.same (s46.trans hs) hA) ?_ ?_⟩
  · rintro i y H' hy ⟨hs, hb⟩
    obtain ⟨qq, b, vr, hq, rfl, hB, hT⟩ := hxd i y hy
    have hi : i < p.derived.length := (List.getElem?_eq_some_iff.mp hq).1
    refine ⟨rfl, tYes_of ?_⟩
    refine ⟨_, rfl, b, _, 0, _, rfl, rfl, SqT.same (s46.trans hs) hB, rfl, _, hb, small1000 (by rw [List.length_map, List.length_take]; omega), own_same hs hD0, ?_⟩
    rw [upd_same, take_more hq, List.map_append]
    rfl
  rintro H7 ⟨t7, hb⟩
  rw [hxl, List.take_length] at hb
  refine ⟨_, _, rfl, .inl ⟨SqL.of hb, fun dt hdt => ?_⟩⟩
  have s78 := Same.new hdt (.tup (p.derived.map fun q => V.str q.1))
  have s48 := (s46.trans t7).trans s78
  have s68 := t7.trans s78
  have hdtS : SqT K (upd H7 dt (.tup (p.derived.map fun q => V.str q.1))) dt (p.derived.map fun q => V.str q.1) := SqT.of upd_same
  try dsimp only
  generalize upd H7 dt (.tup (p.derived.map fun q => V.str q.1)) = H8 at s78 s48 s68 hdtS
  clear hb
  refine ⟨_, rfl, pa, _, 3, _, rfl, rfl, SqT.same s48 hP, rfl, ae, rfl, ⟨_, SqT.same s48 hE⟩, fun D hD0 => lc_tup (K := K) (a := ae) (xs := ys) (fun i H' => Same H8 H' ∧ H' D = some (.lst ((p.effects.take i).map fun q => V.str q.1)))
    ⟨Same.new hD0 _, upd_same⟩ (fun i H' _ ⟨hs, _⟩ => SqT.same (s48.trans hs) hE) ?_ ?_⟩
  · rintro i y H' hy ⟨hs, hb⟩
    obtain ⟨qq, b, vr, hq, rfl, hB, hT⟩ := hye i y hy
    have hi : i < p.effects.length := (List.getElem?_eq_some_iff.mp hq).1
    refine ⟨rfl, tYes_of ?_⟩
    refine ⟨_, rfl, b, _, 0, _, rfl, rfl, SqT.same (s48.trans hs) hB, rfl, _, hb, small1000 (by rw [List.length_map, List.length_take]; omega), own_same hs hD0, ?_⟩
    rw [upd_same, take_more hq, List.map_append]
    rfl
  rintro H9 ⟨t9, hb⟩
  rw [hyl, List.take_length] at hb
  refine ⟨_, _, rfl, .inl ⟨SqL.of hb, fun et het => ?_⟩⟩
  have s9a := Same.new het (.tup (p.effects.map fun q => V.str q.1))
  have s8a := t9.trans s9a
  have s4a := s48.trans s8a
  have s6a := s68.trans s8a
  have hetS : SqT K (upd H9 et (.tup (p.effects.map fun q => V.str q.1))) et (p.effects.map fun q => V.str q.1) := SqT.of upd_same
  have hdtA := SqT.same s8a hdtS
  try dsimp only
  generalize upd H9 et (.tup (p.effects.map fun q => V.str q.1)) = H10 at s9a s8a s4a s6a hetS hdtA
  have hxA10 := s6a _ _ hxA
  have hPr10 := hPr.same s6a
  -- the cells
  refine ⟨_, rfl, x, dx, _, rfl, hxA10, by kernel_rfl, x, p, 16, rfl, hPr10, ok, fun t H11 s11 ht => ?_⟩
  have s411 := s4a.trans s11
  refine ⟨_, rfl, pa, _, 1, _, rfl, rfl, SqT.same s411 hP, rfl, _, rfl, cat_all (SqT.same s411 h2) (SqT.same s11 hdtA) (Nat.le_of_lt (small1000 (by rw [List.length_map, List.length_map]; omega))) (fun c H12 s12 hc => ?_)⟩
  have hc' : SqT K H12 c (p.cells.map V.str) := by unfold PP.cells; rw [List.map_append, List.map_map]; exact hc
  refine ne_same (d := strsD p.cells) (.tup (SqT.same s12 ht) (DpAll.strs _)) (.tup hc' (DpAll.strs _)) (strs_layD (Ok_cells ok)).1 (by have := (strs_layD (Ok_cells ok)).2; omega) ⟨_, rfl, if_false_of rfl ?_⟩
  have s1012 := s11.trans s12
  have s612 := s6a.trans s1012
  have nmD : ∀ z ∈ p.derived.map (·.1), isNm z = true := fun z hz => by obtain ⟨q, hq, rfl⟩ := List.mem_map.mp hz; exact Ok_der ok q hq
  have nmE : ∀ z ∈ p.effects.map (·.1), isNm z = true := fun z hz => by obtain ⟨q, hq, rfl⟩ := List.mem_map.mp hz; exact Ok_eff ok q hq
  have mm : ∀ ps : List (Str × List Td.Row), (ps.map fun q => V.str q.1) = (ps.map (·.1)).map V.str := fun ps => by rw [List.map_map]; rfl
  refine ⟨_, rfl, x, dx, _, rfl, s612 _ _ hxA, by kernel_rfl, x, p, 16, rfl, hPr.same s612, ok, fun t2 H13 s13 ht2 => ⟨_, rfl, ?_⟩⟩
  rw [mm] at ht2
  have hd13 := SqT.same (s1012.trans s13) hdtA
  rw [mm] at hd13
  refine ne_same (d := strsD (p.derived.map (·.1))) (.tup ht2 (DpAll.strs _)) (.tup hd13 (DpAll.strs _)) (strs_layD nmD).1 (by have := (strs_layD nmD).2; omega) ⟨_, rfl, if_false_of rfl ?_⟩
  have s613 := s612.trans s13
  refine ⟨_, rfl, x, dx, _, rfl, s613 _ _ hxA, by kernel_rfl, x, p, 16, rfl, hPr.same s613, ok, fun t3 H14 s14 ht3 => ⟨_, rfl, ?_⟩⟩
  rw [mm] at ht3
  have he14 := SqT.same ((s1012.trans s13).trans s14) hetS
  rw [mm] at he14
  refine ne_same (d := strsD (p.effects.map (·.1))) (.tup ht3 (DpAll.strs _)) (.tup he14 (DpAll.strs _)) (strs_layD nmE).1 (by have := (strs_layD nmE).2; omega) ⟨_, rfl, if_false_of rfl ?_⟩
  have s614 := s613.trans s14
  have s414 := s46.trans s614
  clear ht2 hd13 ht3 he14 ht hc hc'
  -- the bodies
  refine ⟨_, rfl, pa, _, 2, _, rfl, rfl, SqT.same s414 hP, rfl, _, rfl, pa, _, 3, _, rfl, rfl, SqT.same s414 hP, rfl, cat_all (SqT.same s414 hA) (SqT.same s414 hE) (Nat.le_of_lt (small1000 (by omega))) (fun bc H15 s15 hbc => ?_)⟩
  have s615 := s614.trans s15
  have s415 := s46.trans s615
  have hxA15 := s615 _ _ hxA
  have hPr15 := hPr.same s615
  have hBC : Tn K H15 (.ref bc) (pairsD (p.derived ++ p.effects)) := .tup hbc (TnAll.keep (TK.of_same s415) (pairs_append hTA hTE))
  obtain ⟨c', zs, e2, hC, hl, hzz⟩ := pairs_at hBC
  cases e2
  refine ⟨bc, rfl, ⟨_, hC⟩, for_tup (K := K) (a := bc) (xs := zs) (fun i σ H' => ∃ (v7 : Option V), σ = [some (.ref a), some (.ref st), some (.int pt), some (.ref pa), some (.ref x), some (.ref dt), some (.ref et), v7, none, none, none, none, none] ∧ Same H15 H')
    ⟨none, rfl, Same.refl _⟩ (fun i σ H' _ ⟨_, _, hs⟩ => SqT.same hs hC) ?_ ?_⟩
  · rintro i y σ H16 hi ⟨v7, rfl, hs⟩
    obtain ⟨qq, b, vr, hq, rfl, hB, hT⟩ := hzz i y hi
    have hqm := List.mem_of_getElem? hq
    have lay : (PyData.tuple (rowsD qq.2)).canLay0 = true ∧ (PyData.tuple (rowsD qq.2)).depth ≤ 20 := by
      rcases List.mem_append.mp hqm with h | h
      · exact Ok_derBody ok qq h
      · exact Ok_effBody ok qq h
    refine ⟨_, rfl, x, dx, _, rfl, hs _ _ hxA15, by kernel_rfl, _, rfl, b, _, 0, _, rfl, rfl, SqT.same hs hB, rfl, x, qq.1, p, 16, qq, rfl, hPr15.same hs, ok, hqm, rfl, fun v2 H17 s17 hv2 => ?_⟩
    have hs17 := hs.trans s17
    refine ⟨_, rfl, b, _, 1, _, rfl, rfl, SqT.same hs17 hB, rfl, ne_same (Tn.dp hv2) (Tn.dp (Tn.same hs17 hT)) lay.1 (by have := lay.2; omega) ⟨_, rfl, if_false_of rfl ?_⟩⟩
    exact ⟨_, rfl, hs17⟩
  rintro σ H16 ⟨v7, rfl, hs16⟩
  have s416 := s415.trans hs16
  have hxA16 := hs16 _ _ hxA15
  have hPr16 := hPr15.same hs16
  -- no body for a source
  refine ⟨_, rfl, pa, _, 1, _, rfl, rfl, SqT.same s416 hP, rfl, as, rfl, ⟨_, SqT.same s416 h2⟩, for_tup (K := K) (a := as) (xs := p.sources.map V.str) (fun i σ H' => ∃ (v8 : Option V), σ = [some (.ref a), some (.ref st), some (.int pt), some (.ref pa), some (.ref x), some (.ref dt), some (.ref et), v7, v8, none, none, none, none] ∧ Same H16 H')
    ⟨none, rfl, Same.refl _⟩ (fun i σ H' _ ⟨_, _, hs⟩ => SqT.same (s416.trans hs) h2) ?_ ?_⟩
  · rintro i y σ H17 hi ⟨v8, rfl, hs⟩
    rw [List.getElem?_map] at hi
    obtain ⟨sn, hsn, rfl⟩ := Option.map_eq_some_iff.mp hi
    have hsm := List.mem_of_getElem? hsn
    have hno : sn ∉ (p.derived ++ p.effects).map (·.1) := by
      have nd := ok.nn.nd
      unfold PP.names at nd
      rw [List.append_assoc, ← List.map_append] at nd
      exact fun h => (List.nodup_append.mp nd).2.2 _ hsm _ h rfl
    refine ⟨_, rfl, _, rfl, x, sn, p, 16, rfl, hPr16.same hs, ok, Ok_sources ok sn hsm, hno, fun H18 s18 => ⟨true, rfl, if_false_of rfl ?_⟩⟩
    exact ⟨_, rfl, hs.trans s18⟩
  rintro σ H17 ⟨v8, rfl, hs17⟩
  have s417 := s416.trans hs17
  have hxA17 := hs17 _ _ hxA16
  have hPr17 := hPr16.same hs17
  -- the paths, twice
  have pl := pathsAll_len ok (by decide)
  refine ⟨2, rfl, by decide, by decide, for_range (lo := 0) (n := (2 : Int).toNat) (fun i σ H' => ∃ (v9 v10 : Option V), σ = [some (.ref a), some (.ref st), some (.int pt), some (.ref pa), some (.ref x), some (.ref dt), some (.ref et), v7, v8, v9, v10, none, none] ∧ Same H17 H') ⟨none, none, rfl, Same.refl _⟩ ?_ ?_⟩
  · rintro i σ H18 hi ⟨v9, v10, rfl, hs⟩
    refine ⟨_, rfl, x, dx, _, rfl, hs _ _ hxA17, by kernel_rfl, x, p, 16, rfl, hPr17.same hs, ok, by decide, fun l us H19 s19 hl hu huT => ?_⟩
    have hs19 := hs.trans s19
    refine ⟨_, rfl, .ref l, .ty "list", .type "list", .type "list", true, rfl, .ty _, ty_lst (SqL.of hu), kit_ty (by decide +kernel), true, rfl, if_false_of rfl ?_⟩
    refine ⟨_, rfl, _, rfl, .ref pa, p, 16, rfl, Tn.same (s417.trans hs19) hD, ok, by decide, fun l2 us2 H20 s20 hl2 hu2 huT2 => ?_⟩
    have hu20 := s20 _ _ hu
    refine ne_same (d := .list (pathsAll p)) (.lst (SqL.of hu20) (TnAll.dp (TnAll.keep (TK.of_same s20) huT))) (.lst (SqL.of hu2) (TnAll.dp huT2)) (pathsAll_lay p).1 (by have := (pathsAll_lay p).2; omega) ⟨_, rfl, if_false_of rfl ?_⟩
    refine ⟨_, rfl, .inl ⟨rfl, _, SqL.of hu20⟩, by show 2 ≤ sizeLine; decide, fun t ht => ?_⟩
    have s21 := Same.new ht (.tup [V.str "derived", .int 0])
    have ul := huT.length
    refine ⟨l, us, _, rfl, rfl, s21 _ _ hu20, small1000 (by omega), ?_⟩
    exact ⟨_, _, rfl, Same.own ((hs19.trans s20).trans s21) (free_of hs hl)⟩
  rintro σ H18 ⟨v9, v10, rfl, hs18⟩
  have s418 := s417.trans hs18
  have hxA18 := hs18 _ _ hxA17
  have o18 := stGo o4 s418
  -- other parts
  refine ⟨_, rfl, ?_⟩
  refine ⟨fun σ' H' => ∃ (v' : V) (p' : PP), σ' = [some (.ref a), some (.ref st), some (.int pt), some (.ref pa), some (.ref x), some (.ref dt), some (.ref et), v7, v8, v9, v10, some v', none] ∧ Keep st H18 H' ∧ StOk H' st sc ∧ p'.Ok 16 ∧ Tn K H' v' p'.data, ?_, ?_⟩
  · refine ⟨_, rfl, _, _, rfl, rfl, _, rfl, ?_⟩
    by_cases c4 : pt < 4
    · refine if_true_of (decide_eq_true c4) ?_
      refine ⟨_, rfl, _, rfl, _, rfl, .ref pa, p, 16, pt, st, sc, rfl, Tn.same s418 hD, ok, by decide, by decide, m0, c4, o18, fun v' p' H19 k19 o19 ok' hD' => ?_⟩
      exact ⟨v', p', rfl, k19, o19, ok', hD'⟩
    · refine if_false_of (decide_eq_false c4) ?_
      exact ⟨.ref pa, p, rfl, (fun b o _ e => e), o18, ok, Tn.same s418 hD⟩
  rintro σ H19 ⟨v', p', rfl, k19, o19, ok', hD'⟩
  have tk19 := (TK.of_same s418).trans (TK.of_keep k19 o18.chg)
  have hxA19 := k19 _ _ nx hxA18
  have hPr19 : ProgAt K H19 T.c_Program x p := (hPr17.same hs18).keep k19 nx o18.chg
  have hD19 := Tn.keep tk19 hD
  obtain ⟨pa', aw', as', vd', ve', rfl, hP', g1, g2, g3, g4⟩ := parts_at hD'
  refine ⟨_, rfl, pa', _, 0, _, rfl, rfl, hP', rfl, _, rfl, pa', _, 1, _, rfl, rfl, hP', rfl, _, rfl, pa', _, 2, _, rfl, rfl, hP', rfl, _, rfl, pa', _, 3, _, rfl, rfl, hP', rfl, fun x2 dx2 hx2 hdx2 hne2 => ?_⟩
  have sx2 : Same H19 (upd (upd H19 dx2 (.own x2)) x2 (.ins T.c_Program dx2 [])) := (Same.new hdx2 _).trans (Same.new (by rw [upd_ne (Ne.symm hne2)]; exact hx2) _)
  refine ⟨x2, dx2, aw', as', vd', ve', p', _, rfl, upd_same, SqT.same sx2 g1, SqT.same sx2 g2, Tn.same sx2 g3, Tn.same sx2 g4, ok', by decide, fun dn' en' H20 s20 hdn' hen' => ⟨rfl, ?_⟩⟩
  have s21 : Same H19 (upd H20 x2 (.ins T.c_Program dx2 (progF aw' as' vd' ve' dn' en'))) := own_same (sx2.trans s20) hx2
  have hxB : upd H20 x2 (.ins T.c_Program dx2 (progF aw' as' vd' ve' dn' en')) x2 = some (.ins T.c_Program dx2 (progF aw' as' vd' ve' dn' en')) := upd_same
  have hPr2 : ProgAt K (upd H20 x2 (.ins T.c_Program dx2 (progF aw' as' vd' ve' dn' en'))) T.c_Program x2 p' := ⟨dx2, aw', as', vd', ve', ⟨dn', en', upd_same, hdn', hen'⟩, SqT.same s21 g1, SqT.same s21 g2, Tn.same s21 g3, Tn.same s21 g4⟩
  try dsimp only
  generalize upd H20 x2 (.ins T.c_Program dx2 (progF aw' as' vd' ve' dn' en')) = H21 at s21 hxB hPr2
  refine ⟨_, rfl, _, rfl, x, x2, dx, dx2, _, _, rfl, rfl, s21 _ _ hxA19, hxB, x, x2, p, p', 16, 16, rfl, hPr19.same s21, hPr2, ok, ok', fun H22 s22 => ⟨_, rfl, ?_⟩⟩
  have s1922 := s21.trans s22
  refine ⟨_, rfl, _, rfl, p.data, p'.data, Tn.dp (Tn.same s1922 hD19), Tn.dp (Tn.same s1922 hD'), shape_of (Ok_data ok).1 (by have := (Ok_data ok).2; omega), shape_of (Ok_data ok').1 (by have := (Ok_data ok').2; omega), rfl, _, rfl, if_true_of (decide_eq_true rfl) ?_⟩
  refine ⟨_, rfl, _, rfl, x, x, dx, dx, _, _, rfl, rfl, s1922 _ _ hxA19, s1922 _ _ hxA19, x, x, p, p, 16, 16, rfl, hPr19.same s1922, hPr19.same s1922, ok, ok, fun H23 s23 => ⟨_, rfl, ?_⟩⟩
  rw [SeqAt.eqv_refl p.data (Ok_data ok).1]
  exact q _ (fresh_same s1 f1 (((k14.trans (Same.keep s418 st)).trans k19).trans (Same.keep (s1922.trans s23) st)))
theorem ok_law (T : Tops w K mg) (G__law_first_part : FnOk P w K mg base CX0 12 T.a__law_first_part T.d__law_first_part ["_law_script"] (spPart K))
    (G__law_second_part : FnOk P w K mg base CX0 12 T.a__law_second_part T.d__law_second_part ["_law_script"] (spPartL K)) :
    FnOk P w K mg base CX0 13 T.a_law T.d_law ["_law_script"] (spPartL K) := by
  refine T.F_law.ok sc_law (fun vs H Q E h => ?_) (fun cdv A outer s H vs Q E hr h => ?_)
  · obtain ⟨a, ns, rfl, _⟩ := h
    rfl
  obtain ⟨a, ns, rfl, hN, hlen, q⟩ := h
  refine ⟨_, (pss_one (ps_ret (pe_and (pe_call G__law_first_part (hr.mono (by omega)) rfl T.m__law_first_part T.F__law_first_part.kp T.b__law_first_part .nil pass0 (pa_cons (pv 0) pa_nil)) (pe_one (pe_call G__law_second_part (hr.mono (by omega)) rfl T.m__law_second_part T.F__law_second_part.kp T.b__law_second_part .nil pass0 (pa_cons (pv 0) pa_nil)))))), ?_⟩
  exact ⟨_, rfl, a, ns, rfl, hN, hlen, fun H1 s1 => ⟨true, rfl, iteT ⟨_, rfl, a, ns, rfl, SqL.same s1 hN, hlen, fun H2 => q H2⟩⟩⟩
end
end K01
namespace K01
open PySem PySem.Spec PyProof.Rows L2 Td
def spLaw (K : PySem.W.Frag) : Sp := fun vs H Q _ => ∃ (a : Addr) (ns : List Int), vs = [.ref a] ∧ SqL K H a (ns.map V.int) ∧ ns.length ≤ 63 ∧ ∀ H', Q (.bl true) H'
theorem law_of {w : World} {K : PySem.W.Frag} {mg : Str → Option Value} {base : Heap} (T : Tops w K mg) : FnOk PySem.Challenge.pw_toldonward_k01_program_keeps_its_parts w K mg base CX0 13 T.a_law T.d_law ["_law_script"] (spLaw K) := by
  have draw := ok_draw (P := PySem.Challenge.pw_toldonward_k01_program_keeps_its_parts) (base := base) T
  have nms := ok_names (P := PySem.Challenge.pw_toldonward_k01_program_keeps_its_parts) (base := base) T draw
  have row := ok_row (P := PySem.Challenge.pw_toldonward_k01_program_keeps_its_parts) (base := base) T draw
  have rows := ok_rows T draw row (ok_many T 5) 5
  have parts := ok_parts T draw nms rows
  have isn := ok_is_name (P := PySem.Challenge.pw_toldonward_k01_program_keeps_its_parts) (base := base) T
  have arn := ok_are_names T isn
  have nps := ok_named_pairs T isn
  have nof := ok_names_of (P := PySem.Challenge.pw_toldonward_k01_program_keeps_its_parts) (base := base) T
  have fits := fit_held T (ok_read T isn) (ok_put T isn) (ok_slot T isn) (ok_write T isn) (ok_if T isn)
  have fst := ok_first T (ok_valid T fits (ok_check_of T)) 4
  have bod := ok_check_body T fst (ok_paths T 4)
  have bds := ok_check_bodies T bod (ok_scope T)
  have prg := ok_program T (ok_check_parts T arn nps nof) bds nof
  have uC := ok_UnknownCell (P := PySem.Challenge.pw_toldonward_k01_program_keeps_its_parts) (base := base) T
  have unk := ok_law_unknown T (ok_body_bad T uC)
  have rpa := ok_row_paths (P := PySem.Challenge.pw_toldonward_k01_program_keeps_its_parts) (base := base) T (ok_pathsV T 4)
  have lpa := ok_law_paths (P := PySem.Challenge.pw_toldonward_k01_program_keeps_its_parts) (base := base) T (ok_law_all T 4)
  have st := ok_state (P := PySem.Challenge.pw_toldonward_k01_program_keeps_its_parts) (base := base) T
  have f := ok_law_first T st draw parts prg (ok_cells (P := PySem.Challenge.pw_toldonward_k01_program_keeps_its_parts) (base := base) T) (ok_derived_names (P := PySem.Challenge.pw_toldonward_k01_program_keeps_its_parts) (base := base) T) (ok_effect_names (P := PySem.Challenge.pw_toldonward_k01_program_keeps_its_parts) (base := base) T) (ok_body T) unk rpa lpa (ok_law_other T draw) (ok_prog_eq T)
  have isD := ok_is_nameD (P := PySem.Challenge.pw_toldonward_k01_program_keeps_its_parts) (base := base) T
  have iP := ok_InvalidProgram (P := PySem.Challenge.pw_toldonward_k01_program_keeps_its_parts) (base := base) T
  have cpD := ok_check_partsD T (ok_are_namesD T isD) (ok_named_pairsD T isD) (ok_nms_of T) iP
  have bdG := ok_check_bodiesG T (ok_check_bodyG T fst (ok_paths T 4) iP) (ok_scope T)
  have prG := ok_programG T cpD bdG (ok_nms_of T)
  have lis := ok_law_is_name (P := PySem.Challenge.pw_toldonward_k01_program_keeps_its_parts) (base := base) T
  have lff := ok_law_first_fault T (ok_law_names_good T lis) (ok_law_pairs_good T lis)
  have bn := ok_law_bad_name T draw
  have s := ok_law_second T st draw parts (ok_law_bad_names T draw bn) (ok_law_bad_pairs T draw bn) lff prG
  exact (ok_law T f s).imp fun vs H Q E ⟨a, ns, e, h1, h2, q⟩ => ⟨a, ns, e, h1, h2, fun H' => q H'⟩
abbrev D_is_name : He.DefD := ⟨("is_name", none), "is_name", "is_name", defArgs s_is_name, defBody s_is_name, defScope s_is_name, [], []⟩
abbrev D_are_names : He.DefD := ⟨("are_names", none), "are_names", "are_names", defArgs s_are_names, defBody s_are_names, defScope s_are_names, [], []⟩
abbrev D_are_named_pairs : He.DefD := ⟨("are_named_pairs", none), "are_named_pairs", "are_named_pairs", defArgs s_are_named_pairs, defBody s_are_named_pairs, defScope s_are_named_pairs, [], []⟩
abbrev D_InvalidProgram_init : He.DefD := ⟨("InvalidProgram", some "__init__"), "__init__", "InvalidProgram.__init__", defArgs s_InvalidProgram_init, defBody s_InvalidProgram_init, defScope s_InvalidProgram_init, [], []⟩
abbrev D_InvalidPath_init : He.DefD := ⟨("InvalidPath", some "__init__"), "__init__", "InvalidPath.__init__", defArgs s_InvalidPath_init, defBody s_InvalidPath_init, defScope s_InvalidPath_init, [], []⟩
abbrev D_UnknownCell_init : He.DefD := ⟨("UnknownCell", some "__init__"), "__init__", "UnknownCell.__init__", defArgs s_UnknownCell_init, defBody s_UnknownCell_init, defScope s_UnknownCell_init, [], []⟩
abbrev D_Scope_init : He.DefD := ⟨("Scope", some "__init__"), "__init__", "Scope.__init__", defArgs s_Scope_init, defBody s_Scope_init, defScope s_Scope_init, [], []⟩
abbrev D_is_read_row : He.DefD := ⟨("is_read_row", none), "is_read_row", "is_read_row", defArgs s_is_read_row, defBody s_is_read_row, defScope s_is_read_row, [], []⟩
abbrev D_is_put_row : He.DefD := ⟨("is_put_row", none), "is_put_row", "is_put_row", defArgs s_is_put_row, defBody s_is_put_row, defScope s_is_put_row, [], []⟩
abbrev D_is_if_row : He.DefD := ⟨("is_if_row", none), "is_if_row", "is_if_row", defArgs s_is_if_row, defBody s_is_if_row, defScope s_is_if_row, [], []⟩
abbrev D_is_slot_row : He.DefD := ⟨("is_slot_row", none), "is_slot_row", "is_slot_row", defArgs s_is_slot_row, defBody s_is_slot_row, defScope s_is_slot_row, [], []⟩
abbrev D_is_write_row : He.DefD := ⟨("is_write_row", none), "is_write_row", "is_write_row", defArgs s_is_write_row, defBody s_is_write_row, defScope s_is_write_row, [], []⟩
abbrev D_check_of : He.DefD := ⟨("check_of", none), "check_of", "check_of", defArgs s_check_of, defBody s_check_of, defScope s_check_of, [], []⟩
abbrev D_is_valid_row : He.DefD := ⟨("is_valid_row", none), "is_valid_row", "is_valid_row", defArgs s_is_valid_row, defBody s_is_valid_row, defScope s_is_valid_row, [], []⟩
abbrev D_first_wrong_path : He.DefD := ⟨("first_wrong_path", none), "first_wrong_path", "first_wrong_path", defArgs s_first_wrong_path, defBody s_first_wrong_path, defScope s_first_wrong_path, [], []⟩
abbrev D_paths_of_rows : He.DefD := ⟨("paths_of_rows", none), "paths_of_rows", "paths_of_rows", defArgs s_paths_of_rows, defBody s_paths_of_rows, defScope s_paths_of_rows, [], []⟩
abbrev D_Program_init : He.DefD := ⟨("Program", some "__init__"), "__init__", "Program.__init__", defArgs s_Program_init, defBody s_Program_init, defScope s_Program_init, [], []⟩
abbrev D_Program_eq : He.DefD := ⟨("Program", some "__eq__"), "__eq__", "Program.__eq__", defArgs s_Program_eq, defBody s_Program_eq, defScope s_Program_eq, [], []⟩
abbrev D_Program_cells : He.DefD := ⟨("Program", some "cells"), "cells", "Program.cells", defArgs s_Program_cells, defBody s_Program_cells, defScope s_Program_cells, [], []⟩
abbrev D_Program_derived_names : He.DefD := ⟨("Program", some "derived_names"), "derived_names", "Program.derived_names", defArgs s_Program_derived_names, defBody s_Program_derived_names, defScope s_Program_derived_names, [], []⟩
abbrev D_Program_effect_names : He.DefD := ⟨("Program", some "effect_names"), "effect_names", "Program.effect_names", defArgs s_Program_effect_names, defBody s_Program_effect_names, defScope s_Program_effect_names, [], []⟩
abbrev D_Program_body : He.DefD := ⟨("Program", some "body"), "body", "Program.body", defArgs s_Program_body, defBody s_Program_body, defScope s_Program_body, [], []⟩
abbrev D_Program_row_paths : He.DefD := ⟨("Program", some "row_paths"), "row_paths", "Program.row_paths", defArgs s_Program_row_paths, defBody s_Program_row_paths, defScope s_Program_row_paths, [], []⟩
abbrev D_Program_row_at : He.DefD := ⟨("Program", some "row_at"), "row_at", "Program.row_at", defArgs s_Program_row_at, defBody s_Program_row_at, defScope s_Program_row_at, [], []⟩
abbrev D_Program_with_row : He.DefD := ⟨("Program", some "with_row"), "with_row", "Program.with_row", defArgs s_Program_with_row, defBody s_Program_with_row, defScope s_Program_with_row, [], []⟩
abbrev D_names_of : He.DefD := ⟨("names_of", none), "names_of", "names_of", defArgs s_names_of, defBody s_names_of, defScope s_names_of, [], []⟩
abbrev D_check_parts : He.DefD := ⟨("check_parts", none), "check_parts", "check_parts", defArgs s_check_parts, defBody s_check_parts, defScope s_check_parts, [], []⟩
abbrev D_check_bodies : He.DefD := ⟨("check_bodies", none), "check_bodies", "check_bodies", defArgs s_check_bodies, defBody s_check_bodies, defScope s_check_bodies, [], []⟩
abbrev D_check_body : He.DefD := ⟨("check_body", none), "check_body", "check_body", defArgs s_check_body, defBody s_check_body, defScope s_check_body, [], []⟩
abbrev D_law_state : He.DefD := ⟨("_law_state", none), "_law_state", "_law_state", defArgs s_law_state, defBody s_law_state, defScope s_law_state, [], []⟩
abbrev D_law_draw : He.DefD := ⟨("_law_draw", none), "_law_draw", "_law_draw", defArgs s_law_draw, defBody s_law_draw, defScope s_law_draw, [], []⟩
abbrev D_law_names : He.DefD := ⟨("_law_names", none), "_law_names", "_law_names", defArgs s_law_names, defBody s_law_names, defScope s_law_names, [], []⟩
abbrev D_law_many : He.DefD := ⟨("_law_many", none), "_law_many", "_law_many", defArgs s_law_many, defBody s_law_many, defScope s_law_many, [], []⟩
abbrev D_law_row : He.DefD := ⟨("_law_row", none), "_law_row", "_law_row", defArgs s_law_row, defBody s_law_row, defScope s_law_row, [], []⟩
abbrev D_law_rows : He.DefD := ⟨("_law_rows", none), "_law_rows", "_law_rows", defArgs s_law_rows, defBody s_law_rows, defScope s_law_rows, [], []⟩
abbrev D_law_parts : He.DefD := ⟨("_law_parts", none), "_law_parts", "_law_parts", defArgs s_law_parts, defBody s_law_parts, defScope s_law_parts, [], []⟩
abbrev D_law_all_paths : He.DefD := ⟨("_law_all_paths", none), "_law_all_paths", "_law_all_paths", defArgs s_law_all_paths, defBody s_law_all_paths, defScope s_law_all_paths, [], []⟩
abbrev D_law_paths : He.DefD := ⟨("_law_paths", none), "_law_paths", "_law_paths", defArgs s_law_paths, defBody s_law_paths, defScope s_law_paths, [], []⟩
abbrev D_law_other : He.DefD := ⟨("_law_other", none), "_law_other", "_law_other", defArgs s_law_other, defBody s_law_other, defScope s_law_other, [], []⟩
abbrev D_law_unknown : He.DefD := ⟨("_law_unknown", none), "_law_unknown", "_law_unknown", defArgs s_law_unknown, defBody s_law_unknown, defScope s_law_unknown, [], []⟩
abbrev D_law_is_name : He.DefD := ⟨("_law_is_name", none), "_law_is_name", "_law_is_name", defArgs s_law_is_name, defBody s_law_is_name, defScope s_law_is_name, [], []⟩
abbrev D_law_bad_name : He.DefD := ⟨("_law_bad_name", none), "_law_bad_name", "_law_bad_name", defArgs s_law_bad_name, defBody s_law_bad_name, defScope s_law_bad_name, [], []⟩
abbrev D_law_bad_names : He.DefD := ⟨("_law_bad_names", none), "_law_bad_names", "_law_bad_names", defArgs s_law_bad_names, defBody s_law_bad_names, defScope s_law_bad_names, [], []⟩
abbrev D_law_bad_pairs : He.DefD := ⟨("_law_bad_pairs", none), "_law_bad_pairs", "_law_bad_pairs", defArgs s_law_bad_pairs, defBody s_law_bad_pairs, defScope s_law_bad_pairs, [], []⟩
abbrev D_law_names_good : He.DefD := ⟨("_law_names_good", none), "_law_names_good", "_law_names_good", defArgs s_law_names_good, defBody s_law_names_good, defScope s_law_names_good, [], []⟩
abbrev D_law_pairs_good : He.DefD := ⟨("_law_pairs_good", none), "_law_pairs_good", "_law_pairs_good", defArgs s_law_pairs_good, defBody s_law_pairs_good, defScope s_law_pairs_good, [], []⟩
abbrev D_law_first_fault : He.DefD := ⟨("_law_first_fault", none), "_law_first_fault", "_law_first_fault", defArgs s_law_first_fault, defBody s_law_first_fault, defScope s_law_first_fault, [], []⟩
abbrev D_law_first_part : He.DefD := ⟨("_law_first_part", none), "_law_first_part", "_law_first_part", defArgs s_law_first_part, defBody s_law_first_part, defScope s_law_first_part, [], []⟩
abbrev D_law_second_part : He.DefD := ⟨("_law_second_part", none), "_law_second_part", "_law_second_part", defArgs s_law_second_part, defBody s_law_second_part, defScope s_law_second_part, [], []⟩
abbrev D_law : He.DefD := ⟨("law", none), "law", "law", defArgs s_law, defBody s_law, defScope s_law, [], []⟩
def us : List SupD := []
def fa0 : List He.Fa := [.glo "is_name", .glo "are_names", .glo "are_named_pairs", .glo "is_read_row", .glo "is_put_row", .glo "is_if_row", .glo "is_slot_row", .glo "is_write_row", .glo "check_of", .glo "is_valid_row", .glo "first_wrong_path", .glo "paths_of_rows", .glo "names_of", .glo "check_parts", .glo "check_bodies", .glo "check_body", .glo "_law_state", .glo "_law_draw", .glo "_law_names", .glo "_law_many", .glo "_law_row", .glo "_law_rows", .glo "_law_parts", .glo "_law_all_paths", .glo "_law_paths", .glo "_law_other", .glo "_law_unknown", .glo "_law_is_name", .glo "_law_bad_name", .glo "_law_bad_names"]
def fa1 : List He.Fa := [.glo "_law_bad_pairs", .glo "_law_names_good", .glo "_law_pairs_good", .glo "_law_first_fault", .glo "_law_first_part", .glo "_law_second_part", .glo "law", .free "isinstance", .free "str", .free "tuple", .free "list", .free "len", .free "all", .free "set", .free "enumerate", .free "range", .free "abs", .free "int", .free "max", .free "dict", .free "zip", .free "ValueError", .int "LONGEST_NAME" 8, .int "MOST_ROWS" 16, .int "DEEPEST_IF" 3, .int "LEAST_WORDS" 2, .int "MOST_WORDS" 4, .int "LEAST_SOURCES" 1, .int "MOST_SOURCES" 4, .int "MOST_DERIVED" 6]
def fa2 : List He.Fa := [.int "MOST_EFFECTS" 4, .glo "ToldError", .glo "InvalidProgram", .exm "InvalidProgram" "InvalidProgram" true, .glo "InvalidPath", .glo "UnknownCell", .exm "UnknownCell" "UnknownCell" true, .exm "UnknownCell" "InvalidProgram" false, .glo "Scope", .cls "Scope", .mkr "Scope", .noat "Scope" "kind", .noat "Scope" "words", .noat "Scope" "sources", .noat "Scope" "readable", .glo "Program", .cls "Program", .mkr "Program", .noat "Program" "words", .noat "Program" "sources", .noat "Program" "derived", .noat "Program" "effects", .noat "Program" "_derived_names", .noat "Program" "_effect_names", .meth "Program" "cells", .meth "Program" "derived_names", .meth "Program" "effect_names", .meth "Program" "body", .meth "Program" "row_paths", .meth "Program" "row_at"]
def fa3 : List He.Fa := [.meth "Program" "with_row", .glo "DERIVED_FORMS", .glo "EFFECT_FORMS"]
def fa : List He.Fa := fa0 ++ (fa1 ++ (fa2 ++ (fa3)))
def fn0 : List He.DefD := [D_is_name, D_are_names, D_are_named_pairs, D_InvalidProgram_init, D_InvalidPath_init, D_UnknownCell_init, D_Scope_init, D_is_read_row, D_is_put_row, D_is_if_row, D_is_slot_row, D_is_write_row, D_check_of, D_is_valid_row, D_first_wrong_path, D_paths_of_rows, D_Program_init, D_Program_eq, D_Program_cells, D_Program_derived_names, D_Program_effect_names, D_Program_body, D_Program_row_paths, D_Program_row_at, D_Program_with_row, D_names_of, D_check_parts, D_check_bodies, D_check_body, D_law_state]
def fn1 : List He.DefD := [D_law_draw, D_law_names, D_law_many, D_law_row, D_law_rows, D_law_parts, D_law_all_paths, D_law_paths, D_law_other, D_law_unknown, D_law_is_name, D_law_bad_name, D_law_bad_names, D_law_bad_pairs, D_law_names_good, D_law_pairs_good, D_law_first_fault, D_law_first_part, D_law_second_part, D_law]
def fn : List He.DefD := fn0 ++ (fn1)
def ts : List He.Tab := [(fun K => He.ga K "DERIVED_FORMS", ["read", "put", "if", "give"]), (fun K => He.ga K "EFFECT_FORMS", ["read", "peek", "put", "if", "write", "say"])]
def vt : List (Str × List (Str × He.Dv)) := [("DERIVED_FORMS", [("read", He.Dv.glo "is_read_row"), ("put", He.Dv.glo "is_put_row"), ("if", He.Dv.glo "is_if_row"), ("give", He.Dv.glo "is_slot_row")]), ("EFFECT_FORMS", [("read", He.Dv.glo "is_read_row"), ("peek", He.Dv.glo "is_read_row"), ("put", He.Dv.glo "is_put_row"), ("if", He.Dv.glo "is_if_row"), ("write", He.Dv.glo "is_write_row"), ("say", He.Dv.glo "is_slot_row")])]
def xs : List (Str × Str) := [("InvalidProgram", "part"), ("UnknownCell", "name")]
def ex (K : PySem.W.Frag) : Bool := (vt.all fun t => He.valsB K (He.ga K t.1) t.2) && ((xs.all fun q => excB K q.1 q.2) && (He.eqO (PySem.W.findIn K (.ref (He.ga K "InvalidProgram")) "path") (some none) && (askB K (He.ga K "InvalidProgram") && (kitB K (.ref (He.ga K "InvalidProgram")) (.ref (He.ga K "ToldError")) true && (kitB K (.ref (He.ga K "InvalidProgram")) (.type "ValueError") true && (kitB K (.ref (He.ga K "InvalidProgram")) (.ref (He.ga K "InvalidPath")) false && (He.eqO (PySem.W.findIn K (.ref (He.ga K "Program")) "__eq__") (some (some (.ref (He.fAd K ("Program", some "__eq__"))))) && (PySem.W.isFn K (.ref (He.fAd K ("Program", some "__eq__"))) && (ownB K (He.ga K "Program"))))))))))
theorem fun_of {K : PySem.W.Frag} {x qual : Str} {st : Stmt} {f : Addr} (h : ∃ fd, FunD K x qual (defArgs st) (defBody st) (defScope st) [] [] f fd) : ∃ fd, Fun K x qual st f fd := by
  obtain ⟨fd, F⟩ := h
  obtain ⟨oc, od, dV, kV, doc, pm, an, cdv, ct, osl, e, lk, hcd, hD, hK⟩ := F.ex
  rcases hD with ⟨_, rfl⟩ | ⟨z, _⟩
  · exact ⟨fd, ⟨oc, od, kV, doc, pm, an, cdv, ct, osl, e, lk, hcd⟩, F.kp⟩
  · exact absurd rfl z
theorem val_of {K : PySem.W.Frag} {t : Str × List (Str × He.Dv)} (h : He.valsB K (He.ga K t.1) t.2 = true) (q : Str × He.Dv) (hq : q ∈ t.2) : ∃ u, PySem.W.nsIn K (He.ga K t.1) q.1 = some (some u) ∧ RelV (q.2.v K) u := He.valsB_ok h hq
theorem kdct_of {K : PySem.W.Frag} {w : World} {a : Addr} {es : Array DictEntry} {n : Nat} {x : Str} {v : V} (l : K.lookup a = some ⟨.type "dict", none, .dict es n, #[]⟩) (y : PySem.W.KeysLit w.params es.toList) (h : ∃ u, PySem.W.nsIn K a x = some (some u) ∧ RelV v u) : KDct K w a x v := by
  obtain ⟨u, h1, h2⟩ := h
  exact ⟨es, n, u, l, y, h1, h2⟩
theorem law_binds {K : PySem.W.Frag} {x qual : Str} {st : Stmt} {f : Addr} {fd : FuncData} {ps : List Str} (F : Fun K x qual st f fd)
    (h : ∀ (kV doc pm : Value) (an : Option Addr) (cdv ct : Value) (us : List Value), us.length = ps.length → bindArgs (PySem.W.fnOf x qual (defArgs st) (defBody st) (defScope st) .none kV doc pm an cdv ct) ⟨us, []⟩ = pure (ps.zip us)) (s : Shared) (us : List Value) (hl : us.length = ps.length) : BindsTo s fd ⟨us, []⟩ (ps.zip us) := by
  obtain ⟨oc, od, kV, doc, pm, an, cdv, ct, osl, rfl, lk, hcd⟩ := F.ex
  exact .of_eq (h kV doc pm an cdv ct us hl)
theorem tops {w : World} {K : PySem.W.Frag} {h : Heap} {mg : Str → Option Value} (X : K.In h) (G : h.Ns mainGlobals mg) (c : SaysU fa fn ts us ex w K) : ∃ T : Tops w K mg, ∀ (s : Shared) (u : Value), BindsTo s T.d_law ⟨[u], []⟩ [("_law_script", u)] := by
  obtain ⟨d_is_name, F_is_name⟩ := fun_of (x := "is_name") (qual := "is_name") (st := s_is_name) (f := He.fAd K ("is_name", none)) (c.t.d.def_ 0 (d := D_is_name) rfl)
  obtain ⟨d_are_names, F_are_names⟩ := fun_of (x := "are_names") (qual := "are_names") (st := s_are_names) (f := He.fAd K ("are_names", none)) (c.t.d.def_ 1 (d := D_are_names) rfl)
  obtain ⟨d_are_named_pairs, F_are_named_pairs⟩ := fun_of (x := "are_named_pairs") (qual := "are_named_pairs") (st := s_are_named_pairs) (f := He.fAd K ("are_named_pairs", none)) (c.t.d.def_ 2 (d := D_are_named_pairs) rfl)
  obtain ⟨d_InvalidProgram_init, F_InvalidProgram_init⟩ := fun_of (x := "__init__") (qual := "InvalidProgram.__init__") (st := s_InvalidProgram_init) (f := He.fAd K ("InvalidProgram", some "__init__")) (c.t.d.def_ 3 (d := D_InvalidProgram_init) rfl)
  obtain ⟨d_InvalidPath_init, F_InvalidPath_init⟩ := fun_of (x := "__init__") (qual := "InvalidPath.__init__") (st := s_InvalidPath_init) (f := He.fAd K ("InvalidPath", some "__init__")) (c.t.d.def_ 4 (d := D_InvalidPath_init) rfl)
  obtain ⟨d_UnknownCell_init, F_UnknownCell_init⟩ := fun_of (x := "__init__") (qual := "UnknownCell.__init__") (st := s_UnknownCell_init) (f := He.fAd K ("UnknownCell", some "__init__")) (c.t.d.def_ 5 (d := D_UnknownCell_init) rfl)
  obtain ⟨d_Scope_init, F_Scope_init⟩ := fun_of (x := "__init__") (qual := "Scope.__init__") (st := s_Scope_init) (f := He.fAd K ("Scope", some "__init__")) (c.t.d.def_ 6 (d := D_Scope_init) rfl)
  obtain ⟨d_is_read_row, F_is_read_row⟩ := fun_of (x := "is_read_row") (qual := "is_read_row") (st := s_is_read_row) (f := He.fAd K ("is_read_row", none)) (c.t.d.def_ 7 (d := D_is_read_row) rfl)
  obtain ⟨d_is_put_row, F_is_put_row⟩ := fun_of (x := "is_put_row") (qual := "is_put_row") (st := s_is_put_row) (f := He.fAd K ("is_put_row", none)) (c.t.d.def_ 8 (d := D_is_put_row) rfl)
  obtain ⟨d_is_if_row, F_is_if_row⟩ := fun_of (x := "is_if_row") (qual := "is_if_row") (st := s_is_if_row) (f := He.fAd K ("is_if_row", none)) (c.t.d.def_ 9 (d := D_is_if_row) rfl)
  obtain ⟨d_is_slot_row, F_is_slot_row⟩ := fun_of (x := "is_slot_row") (qual := "is_slot_row") (st := s_is_slot_row) (f := He.fAd K ("is_slot_row", none)) (c.t.d.def_ 10 (d := D_is_slot_row) rfl)
  obtain ⟨d_is_write_row, F_is_write_row⟩ := fun_of (x := "is_write_row") (qual := "is_write_row") (st := s_is_write_row) (f := He.fAd K ("is_write_row", none)) (c.t.d.def_ 11 (d := D_is_write_row) rfl)
  obtain ⟨d_check_of, F_check_of⟩ := fun_of (x := "check_of") (qual := "check_of") (st := s_check_of) (f := He.fAd K ("check_of", none)) (c.t.d.def_ 12 (d := D_check_of) rfl)
  obtain ⟨d_is_valid_row, F_is_valid_row⟩ := fun_of (x := "is_valid_row") (qual := "is_valid_row") (st := s_is_valid_row) (f := He.fAd K ("is_valid_row", none)) (c.t.d.def_ 13 (d := D_is_valid_row) rfl)
  obtain ⟨d_first_wrong_path, F_first_wrong_path⟩ := fun_of (x := "first_wrong_path") (qual := "first_wrong_path") (st := s_first_wrong_path) (f := He.fAd K ("first_wrong_path", none)) (c.t.d.def_ 14 (d := D_first_wrong_path) rfl)
  obtain ⟨d_paths_of_rows, F_paths_of_rows⟩ := fun_of (x := "paths_of_rows") (qual := "paths_of_rows") (st := s_paths_of_rows) (f := He.fAd K ("paths_of_rows", none)) (c.t.d.def_ 15 (d := D_paths_of_rows) rfl)
  obtain ⟨d_Program_init, F_Program_init⟩ := fun_of (x := "__init__") (qual := "Program.__init__") (st := s_Program_init) (f := He.fAd K ("Program", some "__init__")) (c.t.d.def_ 16 (d := D_Program_init) rfl)
  obtain ⟨d_Program_eq, F_Program_eq⟩ := fun_of (x := "__eq__") (qual := "Program.__eq__") (st := s_Program_eq) (f := He.fAd K ("Program", some "__eq__")) (c.t.d.def_ 17 (d := D_Program_eq) rfl)
  obtain ⟨d_Program_cells, F_Program_cells⟩ := fun_of (x := "cells") (qual := "Program.cells") (st := s_Program_cells) (f := He.fAd K ("Program", some "cells")) (c.t.d.def_ 18 (d := D_Program_cells) rfl)
  obtain ⟨d_Program_derived_names, F_Program_derived_names⟩ := fun_of (x := "derived_names") (qual := "Program.derived_names") (st := s_Program_derived_names) (f := He.fAd K ("Program", some "derived_names")) (c.t.d.def_ 19 (d := D_Program_derived_names) rfl)
  obtain ⟨d_Program_effect_names, F_Program_effect_names⟩ := fun_of (x := "effect_names") (qual := "Program.effect_names") (st := s_Program_effect_names) (f := He.fAd K ("Program", some "effect_names")) (c.t.d.def_ 20 (d := D_Program_effect_names) rfl)
  obtain ⟨d_Program_body, F_Program_body⟩ := fun_of (x := "body") (qual := "Program.body") (st := s_Program_body) (f := He.fAd K ("Program", some "body")) (c.t.d.def_ 21 (d := D_Program_body) rfl)
  obtain ⟨d_Program_row_paths, F_Program_row_paths⟩ := fun_of (x := "row_paths") (qual := "Program.row_paths") (st := s_Program_row_paths) (f := He.fAd K ("Program", some "row_paths")) (c.t.d.def_ 22 (d := D_Program_row_paths) rfl)
  obtain ⟨d_Program_row_at, F_Program_row_at⟩ := fun_of (x := "row_at") (qual := "Program.row_at") (st := s_Program_row_at) (f := He.fAd K ("Program", some "row_at")) (c.t.d.def_ 23 (d := D_Program_row_at) rfl)
  obtain ⟨d_Program_with_row, F_Program_with_row⟩ := fun_of (x := "with_row") (qual := "Program.with_row") (st := s_Program_with_row) (f := He.fAd K ("Program", some "with_row")) (c.t.d.def_ 24 (d := D_Program_with_row) rfl)
  obtain ⟨d_names_of, F_names_of⟩ := fun_of (x := "names_of") (qual := "names_of") (st := s_names_of) (f := He.fAd K ("names_of", none)) (c.t.d.def_ 25 (d := D_names_of) rfl)
  obtain ⟨d_check_parts, F_check_parts⟩ := fun_of (x := "check_parts") (qual := "check_parts") (st := s_check_parts) (f := He.fAd K ("check_parts", none)) (c.t.d.def_ 26 (d := D_check_parts) rfl)
  obtain ⟨d_check_bodies, F_check_bodies⟩ := fun_of (x := "check_bodies") (qual := "check_bodies") (st := s_check_bodies) (f := He.fAd K ("check_bodies", none)) (c.t.d.def_ 27 (d := D_check_bodies) rfl)
  obtain ⟨d_check_body, F_check_body⟩ := fun_of (x := "check_body") (qual := "check_body") (st := s_check_body) (f := He.fAd K ("check_body", none)) (c.t.d.def_ 28 (d := D_check_body) rfl)
  obtain ⟨d_law_state, F_law_state⟩ := fun_of (x := "_law_state") (qual := "_law_state") (st := s_law_state) (f := He.fAd K ("_law_state", none)) (c.t.d.def_ 29 (d := D_law_state) rfl)
  obtain ⟨d_law_draw, F_law_draw⟩ := fun_of (x := "_law_draw") (qual := "_law_draw") (st := s_law_draw) (f := He.fAd K ("_law_draw", none)) (c.t.d.def_ 30 (d := D_law_draw) rfl)
  obtain ⟨d_law_names, F_law_names⟩ := fun_of (x := "_law_names") (qual := "_law_names") (st := s_law_names) (f := He.fAd K ("_law_names", none)) (c.t.d.def_ 31 (d := D_law_names) rfl)
  obtain ⟨d_law_many, F_law_many⟩ := fun_of (x := "_law_many") (qual := "_law_many") (st := s_law_many) (f := He.fAd K ("_law_many", none)) (c.t.d.def_ 32 (d := D_law_many) rfl)
  obtain ⟨d_law_row, F_law_row⟩ := fun_of (x := "_law_row") (qual := "_law_row") (st := s_law_row) (f := He.fAd K ("_law_row", none)) (c.t.d.def_ 33 (d := D_law_row) rfl)
  obtain ⟨d_law_rows, F_law_rows⟩ := fun_of (x := "_law_rows") (qual := "_law_rows") (st := s_law_rows) (f := He.fAd K ("_law_rows", none)) (c.t.d.def_ 34 (d := D_law_rows) rfl)
  obtain ⟨d_law_parts, F_law_parts⟩ := fun_of (x := "_law_parts") (qual := "_law_parts") (st := s_law_parts) (f := He.fAd K ("_law_parts", none)) (c.t.d.def_ 35 (d := D_law_parts) rfl)
  obtain ⟨d_law_all_paths, F_law_all_paths⟩ := fun_of (x := "_law_all_paths") (qual := "_law_all_paths") (st := s_law_all_paths) (f := He.fAd K ("_law_all_paths", none)) (c.t.d.def_ 36 (d := D_law_all_paths) rfl)
  obtain ⟨d_law_paths, F_law_paths⟩ := fun_of (x := "_law_paths") (qual := "_law_paths") (st := s_law_paths) (f := He.fAd K ("_law_paths", none)) (c.t.d.def_ 37 (d := D_law_paths) rfl)
  obtain ⟨d_law_other, F_law_other⟩ := fun_of (x := "_law_other") (qual := "_law_other") (st := s_law_other) (f := He.fAd K ("_law_other", none)) (c.t.d.def_ 38 (d := D_law_other) rfl)
  obtain ⟨d_law_unknown, F_law_unknown⟩ := fun_of (x := "_law_unknown") (qual := "_law_unknown") (st := s_law_unknown) (f := He.fAd K ("_law_unknown", none)) (c.t.d.def_ 39 (d := D_law_unknown) rfl)
  obtain ⟨d_law_is_name, F_law_is_name⟩ := fun_of (x := "_law_is_name") (qual := "_law_is_name") (st := s_law_is_name) (f := He.fAd K ("_law_is_name", none)) (c.t.d.def_ 40 (d := D_law_is_name) rfl)
  obtain ⟨d_law_bad_name, F_law_bad_name⟩ := fun_of (x := "_law_bad_name") (qual := "_law_bad_name") (st := s_law_bad_name) (f := He.fAd K ("_law_bad_name", none)) (c.t.d.def_ 41 (d := D_law_bad_name) rfl)
  obtain ⟨d_law_bad_names, F_law_bad_names⟩ := fun_of (x := "_law_bad_names") (qual := "_law_bad_names") (st := s_law_bad_names) (f := He.fAd K ("_law_bad_names", none)) (c.t.d.def_ 42 (d := D_law_bad_names) rfl)
  obtain ⟨d_law_bad_pairs, F_law_bad_pairs⟩ := fun_of (x := "_law_bad_pairs") (qual := "_law_bad_pairs") (st := s_law_bad_pairs) (f := He.fAd K ("_law_bad_pairs", none)) (c.t.d.def_ 43 (d := D_law_bad_pairs) rfl)
  obtain ⟨d_law_names_good, F_law_names_good⟩ := fun_of (x := "_law_names_good") (qual := "_law_names_good") (st := s_law_names_good) (f := He.fAd K ("_law_names_good", none)) (c.t.d.def_ 44 (d := D_law_names_good) rfl)
  obtain ⟨d_law_pairs_good, F_law_pairs_good⟩ := fun_of (x := "_law_pairs_good") (qual := "_law_pairs_good") (st := s_law_pairs_good) (f := He.fAd K ("_law_pairs_good", none)) (c.t.d.def_ 45 (d := D_law_pairs_good) rfl)
  obtain ⟨d_law_first_fault, F_law_first_fault⟩ := fun_of (x := "_law_first_fault") (qual := "_law_first_fault") (st := s_law_first_fault) (f := He.fAd K ("_law_first_fault", none)) (c.t.d.def_ 46 (d := D_law_first_fault) rfl)
  obtain ⟨d_law_first_part, F_law_first_part⟩ := fun_of (x := "_law_first_part") (qual := "_law_first_part") (st := s_law_first_part) (f := He.fAd K ("_law_first_part", none)) (c.t.d.def_ 47 (d := D_law_first_part) rfl)
  obtain ⟨d_law_second_part, F_law_second_part⟩ := fun_of (x := "_law_second_part") (qual := "_law_second_part") (st := s_law_second_part) (f := He.fAd K ("_law_second_part", none)) (c.t.d.def_ 48 (d := D_law_second_part) rfl)
  obtain ⟨d_law, F_law⟩ := fun_of (x := "law") (qual := "law") (st := s_law) (f := He.fAd K ("law", none)) (c.t.d.def_ 49 (d := D_law) rfl)
  obtain ⟨f_path, r_f_path⟩ := He.ba (He.ba (He.ba c.more).2).2
  obtain ⟨f_ask, r_f_ask⟩ := He.ba r_f_path
  obtain ⟨f_told, r_f_told⟩ := He.ba r_f_ask
  obtain ⟨f_val, r_f_val⟩ := He.ba r_f_told
  obtain ⟨f_bad, r_f_bad⟩ := He.ba r_f_val
  obtain ⟨f_eq, r_f_eq⟩ := He.ba r_f_bad
  obtain ⟨f_fn, r_f_fn⟩ := He.ba r_f_eq
  have f_own := r_f_fn
  have E_InvalidProgram := excB_ok (List.all_eq_true.mp (He.ba (He.ba c.more).2).1 ("InvalidProgram", "part") (by simp [xs]))
  have E_UnknownCell := excB_ok (List.all_eq_true.mp (He.ba (He.ba c.more).2).1 ("UnknownCell", "name") (by simp [xs]))
  obtain ⟨u_LONGEST_NAME, e_LONGEST_NAME⟩ := He.int_ok X G (c.t.d.fact 52 (f := .int "LONGEST_NAME" 8) rfl)
  obtain ⟨u_MOST_ROWS, e_MOST_ROWS⟩ := He.int_ok X G (c.t.d.fact 53 (f := .int "MOST_ROWS" 16) rfl)
  obtain ⟨u_DEEPEST_IF, e_DEEPEST_IF⟩ := He.int_ok X G (c.t.d.fact 54 (f := .int "DEEPEST_IF" 3) rfl)
  obtain ⟨u_LEAST_WORDS, e_LEAST_WORDS⟩ := He.int_ok X G (c.t.d.fact 55 (f := .int "LEAST_WORDS" 2) rfl)
  obtain ⟨u_MOST_WORDS, e_MOST_WORDS⟩ := He.int_ok X G (c.t.d.fact 56 (f := .int "MOST_WORDS" 4) rfl)
  obtain ⟨u_LEAST_SOURCES, e_LEAST_SOURCES⟩ := He.int_ok X G (c.t.d.fact 57 (f := .int "LEAST_SOURCES" 1) rfl)
  obtain ⟨u_MOST_SOURCES, e_MOST_SOURCES⟩ := He.int_ok X G (c.t.d.fact 58 (f := .int "MOST_SOURCES" 4) rfl)
  obtain ⟨u_MOST_DERIVED, e_MOST_DERIVED⟩ := He.int_ok X G (c.t.d.fact 59 (f := .int "MOST_DERIVED" 6) rfl)
  obtain ⟨u_MOST_EFFECTS, e_MOST_EFFECTS⟩ := He.int_ok X G (c.t.d.fact 60 (f := .int "MOST_EFFECTS" 4) rfl)
  obtain ⟨es_DERIVED_FORMS, n_DERIVED_FORMS, L_DERIVED_FORMS, Y_DERIVED_FORMS, S_DERIVED_FORMS⟩ := c.t.tab 0 (t := (fun K => He.ga K "DERIVED_FORMS", ["read", "put", "if", "give"])) rfl
  have V_DERIVED_FORMS := val_of (List.all_eq_true.mp (He.ba c.more).1 (("DERIVED_FORMS" : Str), ([("read", He.Dv.glo "is_read_row"), ("put", He.Dv.glo "is_put_row"), ("if", He.Dv.glo "is_if_row"), ("give", He.Dv.glo "is_slot_row")] : List (Str × He.Dv))) (by simp [vt]))
  obtain ⟨es_EFFECT_FORMS, n_EFFECT_FORMS, L_EFFECT_FORMS, Y_EFFECT_FORMS, S_EFFECT_FORMS⟩ := c.t.tab 1 (t := (fun K => He.ga K "EFFECT_FORMS", ["read", "peek", "put", "if", "write", "say"])) rfl
  have V_EFFECT_FORMS := val_of (List.all_eq_true.mp (He.ba c.more).1 (("EFFECT_FORMS" : Str), ([("read", He.Dv.glo "is_read_row"), ("peek", He.Dv.glo "is_read_row"), ("put", He.Dv.glo "is_put_row"), ("if", He.Dv.glo "is_if_row"), ("write", He.Dv.glo "is_write_row"), ("say", He.Dv.glo "is_slot_row")] : List (Str × He.Dv))) (by simp [vt]))
  exact ⟨{
    z_isinstance := He.free_ok X G (c.t.d.fact 37 (f := .free "isinstance") rfl)
    z_str := He.free_ok X G (c.t.d.fact 38 (f := .free "str") rfl)
    z_tuple := He.free_ok X G (c.t.d.fact 39 (f := .free "tuple") rfl)
    z_list := He.free_ok X G (c.t.d.fact 40 (f := .free "list") rfl)
    z_len := He.free_ok X G (c.t.d.fact 41 (f := .free "len") rfl)
    z_all := He.free_ok X G (c.t.d.fact 42 (f := .free "all") rfl)
    z_set := He.free_ok X G (c.t.d.fact 43 (f := .free "set") rfl)
    z_enumerate := He.free_ok X G (c.t.d.fact 44 (f := .free "enumerate") rfl)
    z_range := He.free_ok X G (c.t.d.fact 45 (f := .free "range") rfl)
    z_abs := He.free_ok X G (c.t.d.fact 46 (f := .free "abs") rfl)
    z_int := He.free_ok X G (c.t.d.fact 47 (f := .free "int") rfl)
    z_max := He.free_ok X G (c.t.d.fact 48 (f := .free "max") rfl)
    z_dict := He.free_ok X G (c.t.d.fact 49 (f := .free "dict") rfl)
    z_zip := He.free_ok X G (c.t.d.fact 50 (f := .free "zip") rfl)
    z_ValueError := He.free_ok X G (c.t.d.fact 51 (f := .free "ValueError") rfl)
    u_LONGEST_NAME := u_LONGEST_NAME
    c_LONGEST_NAME := e_LONGEST_NAME
    u_MOST_ROWS := u_MOST_ROWS
    c_MOST_ROWS := e_MOST_ROWS
    u_DEEPEST_IF := u_DEEPEST_IF
    c_DEEPEST_IF := e_DEEPEST_IF
    u_LEAST_WORDS := u_LEAST_WORDS
    c_LEAST_WORDS := e_LEAST_WORDS
    u_MOST_WORDS := u_MOST_WORDS
    c_MOST_WORDS := e_MOST_WORDS
    u_LEAST_SOURCES := u_LEAST_SOURCES
    c_LEAST_SOURCES := e_LEAST_SOURCES
    u_MOST_SOURCES := u_MOST_SOURCES
    c_MOST_SOURCES := e_MOST_SOURCES
    u_MOST_DERIVED := u_MOST_DERIVED
    c_MOST_DERIVED := e_MOST_DERIVED
    u_MOST_EFFECTS := u_MOST_EFFECTS
    c_MOST_EFFECTS := e_MOST_EFFECTS
    a_is_name := He.fAd K ("is_name", none)
    d_is_name := d_is_name
    F_is_name := F_is_name
    b_is_name := F_is_name.binds (ps := ["value"]) fun _ _ _ _ _ _ us hl => match us, hl with | [_], _ => rfl
    m_is_name := He.glo_ok X G (c.t.d.fact 0 (f := .glo "is_name") rfl)
    a_are_names := He.fAd K ("are_names", none)
    d_are_names := d_are_names
    F_are_names := F_are_names
    b_are_names := F_are_names.binds (ps := ["value", "least", "most"]) fun _ _ _ _ _ _ us hl => match us, hl with | [_, _, _], _ => rfl
    m_are_names := He.glo_ok X G (c.t.d.fact 1 (f := .glo "are_names") rfl)
    a_are_named_pairs := He.fAd K ("are_named_pairs", none)
    d_are_named_pairs := d_are_named_pairs
    F_are_named_pairs := F_are_named_pairs
    b_are_named_pairs := F_are_named_pairs.binds (ps := ["value", "most", "taken"]) fun _ _ _ _ _ _ us hl => match us, hl with | [_, _, _], _ => rfl
    m_are_named_pairs := He.glo_ok X G (c.t.d.fact 2 (f := .glo "are_named_pairs") rfl)
    a_InvalidProgram_init := He.fAd K ("InvalidProgram", some "__init__")
    d_InvalidProgram_init := d_InvalidProgram_init
    F_InvalidProgram_init := F_InvalidProgram_init
    b_InvalidProgram_init := F_InvalidProgram_init.binds (ps := ["self", "part", "path"]) fun _ _ _ _ _ _ us hl => match us, hl with | [_, _, _], _ => rfl
    a_InvalidPath_init := He.fAd K ("InvalidPath", some "__init__")
    d_InvalidPath_init := d_InvalidPath_init
    F_InvalidPath_init := F_InvalidPath_init
    b_InvalidPath_init := F_InvalidPath_init.binds (ps := ["self", "path"]) fun _ _ _ _ _ _ us hl => match us, hl with | [_, _], _ => rfl
    a_UnknownCell_init := He.fAd K ("UnknownCell", some "__init__")
    d_UnknownCell_init := d_UnknownCell_init
    F_UnknownCell_init := F_UnknownCell_init
    b_UnknownCell_init := F_UnknownCell_init.binds (ps := ["self", "name"]) fun _ _ _ _ _ _ us hl => match us, hl with | [_, _], _ => rfl
    a_Scope_init := He.fAd K ("Scope", some "__init__")
    d_Scope_init := d_Scope_init
    F_Scope_init := F_Scope_init
    b_Scope_init := F_Scope_init.binds (ps := ["self", "kind", "words", "sources", "readable"]) fun _ _ _ _ _ _ us hl => match us, hl with | [_, _, _, _, _], _ => rfl
    a_is_read_row := He.fAd K ("is_read_row", none)
    d_is_read_row := d_is_read_row
    F_is_read_row := F_is_read_row
    b_is_read_row := F_is_read_row.binds (ps := ["row", "scope"]) fun _ _ _ _ _ _ us hl => match us, hl with | [_, _], _ => rfl
    m_is_read_row := He.glo_ok X G (c.t.d.fact 3 (f := .glo "is_read_row") rfl)
    a_is_put_row := He.fAd K ("is_put_row", none)
    d_is_put_row := d_is_put_row
    F_is_put_row := F_is_put_row
    b_is_put_row := F_is_put_row.binds (ps := ["row", "scope"]) fun _ _ _ _ _ _ us hl => match us, hl with | [_, _], _ => rfl
    m_is_put_row := He.glo_ok X G (c.t.d.fact 4 (f := .glo "is_put_row") rfl)
    a_is_if_row := He.fAd K ("is_if_row", none)
    d_is_if_row := d_is_if_row
    F_is_if_row := F_is_if_row
    b_is_if_row := F_is_if_row.binds (ps := ["row", "scope"]) fun _ _ _ _ _ _ us hl => match us, hl with | [_, _], _ => rfl
    m_is_if_row := He.glo_ok X G (c.t.d.fact 5 (f := .glo "is_if_row") rfl)
    a_is_slot_row := He.fAd K ("is_slot_row", none)
    d_is_slot_row := d_is_slot_row
    F_is_slot_row := F_is_slot_row
    b_is_slot_row := F_is_slot_row.binds (ps := ["row", "scope"]) fun _ _ _ _ _ _ us hl => match us, hl with | [_, _], _ => rfl
    m_is_slot_row := He.glo_ok X G (c.t.d.fact 6 (f := .glo "is_slot_row") rfl)
    a_is_write_row := He.fAd K ("is_write_row", none)
    d_is_write_row := d_is_write_row
    F_is_write_row := F_is_write_row
    b_is_write_row := F_is_write_row.binds (ps := ["row", "scope"]) fun _ _ _ _ _ _ us hl => match us, hl with | [_, _], _ => rfl
    m_is_write_row := He.glo_ok X G (c.t.d.fact 7 (f := .glo "is_write_row") rfl)
    a_check_of := He.fAd K ("check_of", none)
    d_check_of := d_check_of
    F_check_of := F_check_of
    b_check_of := F_check_of.binds (ps := ["kind", "form"]) fun _ _ _ _ _ _ us hl => match us, hl with | [_, _], _ => rfl
    m_check_of := He.glo_ok X G (c.t.d.fact 8 (f := .glo "check_of") rfl)
    a_is_valid_row := He.fAd K ("is_valid_row", none)
    d_is_valid_row := d_is_valid_row
    F_is_valid_row := F_is_valid_row
    b_is_valid_row := F_is_valid_row.binds (ps := ["row", "scope", "depth"]) fun _ _ _ _ _ _ us hl => match us, hl with | [_, _, _], _ => rfl
    m_is_valid_row := He.glo_ok X G (c.t.d.fact 9 (f := .glo "is_valid_row") rfl)
    a_first_wrong_path := He.fAd K ("first_wrong_path", none)
    d_first_wrong_path := d_first_wrong_path
    F_first_wrong_path := F_first_wrong_path
    b_first_wrong_path := F_first_wrong_path.binds (ps := ["rows", "scope", "base", "depth"]) fun _ _ _ _ _ _ us hl => match us, hl with | [_, _, _, _], _ => rfl
    m_first_wrong_path := He.glo_ok X G (c.t.d.fact 10 (f := .glo "first_wrong_path") rfl)
    a_paths_of_rows := He.fAd K ("paths_of_rows", none)
    d_paths_of_rows := d_paths_of_rows
    F_paths_of_rows := F_paths_of_rows
    b_paths_of_rows := F_paths_of_rows.binds (ps := ["rows", "base"]) fun _ _ _ _ _ _ us hl => match us, hl with | [_, _], _ => rfl
    m_paths_of_rows := He.glo_ok X G (c.t.d.fact 11 (f := .glo "paths_of_rows") rfl)
    a_Program_init := He.fAd K ("Program", some "__init__")
    d_Program_init := d_Program_init
    F_Program_init := F_Program_init
    b_Program_init := F_Program_init.binds (ps := ["self", "words", "sources", "derived", "effects"]) fun _ _ _ _ _ _ us hl => match us, hl with | [_, _, _, _, _], _ => rfl
    a_Program_eq := He.fAd K ("Program", some "__eq__")
    d_Program_eq := d_Program_eq
    F_Program_eq := F_Program_eq
    b_Program_eq := F_Program_eq.binds (ps := ["self", "other"]) fun _ _ _ _ _ _ us hl => match us, hl with | [_, _], _ => rfl
    a_Program_cells := He.fAd K ("Program", some "cells")
    d_Program_cells := d_Program_cells
    F_Program_cells := F_Program_cells
    b_Program_cells := F_Program_cells.binds (ps := ["self"]) fun _ _ _ _ _ _ us hl => match us, hl with | [_], _ => rfl
    a_Program_derived_names := He.fAd K ("Program", some "derived_names")
    d_Program_derived_names := d_Program_derived_names
    F_Program_derived_names := F_Program_derived_names
    b_Program_derived_names := F_Program_derived_names.binds (ps := ["self"]) fun _ _ _ _ _ _ us hl => match us, hl with | [_], _ => rfl
    a_Program_effect_names := He.fAd K ("Program", some "effect_names")
    d_Program_effect_names := d_Program_effect_names
    F_Program_effect_names := F_Program_effect_names
    b_Program_effect_names := F_Program_effect_names.binds (ps := ["self"]) fun _ _ _ _ _ _ us hl => match us, hl with | [_], _ => rfl
    a_Program_body := He.fAd K ("Program", some "body")
    d_Program_body := d_Program_body
    F_Program_body := F_Program_body
    b_Program_body := F_Program_body.binds (ps := ["self", "name"]) fun _ _ _ _ _ _ us hl => match us, hl with | [_, _], _ => rfl
    a_Program_row_paths := He.fAd K ("Program", some "row_paths")
    d_Program_row_paths := d_Program_row_paths
    F_Program_row_paths := F_Program_row_paths
    b_Program_row_paths := F_Program_row_paths.binds (ps := ["self"]) fun _ _ _ _ _ _ us hl => match us, hl with | [_], _ => rfl
    a_Program_row_at := He.fAd K ("Program", some "row_at")
    d_Program_row_at := d_Program_row_at
    F_Program_row_at := F_Program_row_at
    b_Program_row_at := F_Program_row_at.binds (ps := ["self", "path"]) fun _ _ _ _ _ _ us hl => match us, hl with | [_, _], _ => rfl
    a_Program_with_row := He.fAd K ("Program", some "with_row")
    d_Program_with_row := d_Program_with_row
    F_Program_with_row := F_Program_with_row
    b_Program_with_row := F_Program_with_row.binds (ps := ["self", "path", "row"]) fun _ _ _ _ _ _ us hl => match us, hl with | [_, _, _], _ => rfl
    a_names_of := He.fAd K ("names_of", none)
    d_names_of := d_names_of
    F_names_of := F_names_of
    b_names_of := F_names_of.binds (ps := ["pairs"]) fun _ _ _ _ _ _ us hl => match us, hl with | [_], _ => rfl
    m_names_of := He.glo_ok X G (c.t.d.fact 12 (f := .glo "names_of") rfl)
    a_check_parts := He.fAd K ("check_parts", none)
    d_check_parts := d_check_parts
    F_check_parts := F_check_parts
    b_check_parts := F_check_parts.binds (ps := ["words", "sources", "derived", "effects"]) fun _ _ _ _ _ _ us hl => match us, hl with | [_, _, _, _], _ => rfl
    m_check_parts := He.glo_ok X G (c.t.d.fact 13 (f := .glo "check_parts") rfl)
    a_check_bodies := He.fAd K ("check_bodies", none)
    d_check_bodies := d_check_bodies
    F_check_bodies := F_check_bodies
    b_check_bodies := F_check_bodies.binds (ps := ["words", "sources", "derived", "effects"]) fun _ _ _ _ _ _ us hl => match us, hl with | [_, _, _, _], _ => rfl
    m_check_bodies := He.glo_ok X G (c.t.d.fact 14 (f := .glo "check_bodies") rfl)
    a_check_body := He.fAd K ("check_body", none)
    d_check_body := d_check_body
    F_check_body := F_check_body
    b_check_body := F_check_body.binds (ps := ["rows", "scope", "index"]) fun _ _ _ _ _ _ us hl => match us, hl with | [_, _, _], _ => rfl
    m_check_body := He.glo_ok X G (c.t.d.fact 15 (f := .glo "check_body") rfl)
    a__law_state := He.fAd K ("_law_state", none)
    d__law_state := d_law_state
    F__law_state := F_law_state
    b__law_state := F_law_state.binds (ps := ["_law_script"]) fun _ _ _ _ _ _ us hl => match us, hl with | [_], _ => rfl
    m__law_state := He.glo_ok X G (c.t.d.fact 16 (f := .glo "_law_state") rfl)
    a__law_draw := He.fAd K ("_law_draw", none)
    d__law_draw := d_law_draw
    F__law_draw := F_law_draw
    b__law_draw := F_law_draw.binds (ps := ["_law_state_here", "_law_many_here"]) fun _ _ _ _ _ _ us hl => match us, hl with | [_, _], _ => rfl
    m__law_draw := He.glo_ok X G (c.t.d.fact 17 (f := .glo "_law_draw") rfl)
    a__law_names := He.fAd K ("_law_names", none)
    d__law_names := d_law_names
    F__law_names := F_law_names
    b__law_names := F_law_names.binds (ps := ["_law_state_here", "_law_many_here"]) fun _ _ _ _ _ _ us hl => match us, hl with | [_, _], _ => rfl
    m__law_names := He.glo_ok X G (c.t.d.fact 18 (f := .glo "_law_names") rfl)
    a__law_many := He.fAd K ("_law_many", none)
    d__law_many := d_law_many
    F__law_many := F_law_many
    b__law_many := F_law_many.binds (ps := ["_law_rows_here"]) fun _ _ _ _ _ _ us hl => match us, hl with | [_], _ => rfl
    m__law_many := He.glo_ok X G (c.t.d.fact 19 (f := .glo "_law_many") rfl)
    a__law_row := He.fAd K ("_law_row", none)
    d__law_row := d_law_row
    F__law_row := F_law_row
    b__law_row := F_law_row.binds (ps := ["_law_state_here", "_law_shape"]) fun _ _ _ _ _ _ us hl => match us, hl with | [_, _], _ => rfl
    m__law_row := He.glo_ok X G (c.t.d.fact 20 (f := .glo "_law_row") rfl)
    a__law_rows := He.fAd K ("_law_rows", none)
    d__law_rows := d_law_rows
    F__law_rows := F_law_rows
    b__law_rows := F_law_rows.binds (ps := ["_law_state_here", "_law_shape", "_law_depth", "_law_room"]) fun _ _ _ _ _ _ us hl => match us, hl with | [_, _, _, _], _ => rfl
    m__law_rows := He.glo_ok X G (c.t.d.fact 21 (f := .glo "_law_rows") rfl)
    a__law_parts := He.fAd K ("_law_parts", none)
    d__law_parts := d_law_parts
    F__law_parts := F_law_parts
    b__law_parts := F_law_parts.binds (ps := ["_law_state_here", "_law_sizes", "_law_peeks", "_law_writes"]) fun _ _ _ _ _ _ us hl => match us, hl with | [_, _, _, _], _ => rfl
    m__law_parts := He.glo_ok X G (c.t.d.fact 22 (f := .glo "_law_parts") rfl)
    a__law_all_paths := He.fAd K ("_law_all_paths", none)
    d__law_all_paths := d_law_all_paths
    F__law_all_paths := F_law_all_paths
    b__law_all_paths := F_law_all_paths.binds (ps := ["_law_rows_here", "_law_path"]) fun _ _ _ _ _ _ us hl => match us, hl with | [_, _], _ => rfl
    m__law_all_paths := He.glo_ok X G (c.t.d.fact 23 (f := .glo "_law_all_paths") rfl)
    a__law_paths := He.fAd K ("_law_paths", none)
    d__law_paths := d_law_paths
    F__law_paths := F_law_paths
    b__law_paths := F_law_paths.binds (ps := ["_law_parts_here"]) fun _ _ _ _ _ _ us hl => match us, hl with | [_], _ => rfl
    m__law_paths := He.glo_ok X G (c.t.d.fact 24 (f := .glo "_law_paths") rfl)
    a__law_other := He.fAd K ("_law_other", none)
    d__law_other := d_law_other
    F__law_other := F_law_other
    b__law_other := F_law_other.binds (ps := ["_law_parts_here", "_law_part", "_law_state_here"]) fun _ _ _ _ _ _ us hl => match us, hl with | [_, _, _], _ => rfl
    m__law_other := He.glo_ok X G (c.t.d.fact 25 (f := .glo "_law_other") rfl)
    a__law_unknown := He.fAd K ("_law_unknown", none)
    d__law_unknown := d_law_unknown
    F__law_unknown := F_law_unknown
    b__law_unknown := F_law_unknown.binds (ps := ["_law_program", "_law_name"]) fun _ _ _ _ _ _ us hl => match us, hl with | [_, _], _ => rfl
    m__law_unknown := He.glo_ok X G (c.t.d.fact 26 (f := .glo "_law_unknown") rfl)
    a__law_is_name := He.fAd K ("_law_is_name", none)
    d__law_is_name := d_law_is_name
    F__law_is_name := F_law_is_name
    b__law_is_name := F_law_is_name.binds (ps := ["_law_value"]) fun _ _ _ _ _ _ us hl => match us, hl with | [_], _ => rfl
    m__law_is_name := He.glo_ok X G (c.t.d.fact 27 (f := .glo "_law_is_name") rfl)
    a__law_bad_name := He.fAd K ("_law_bad_name", none)
    d__law_bad_name := d_law_bad_name
    F__law_bad_name := F_law_bad_name
    b__law_bad_name := F_law_bad_name.binds (ps := ["_law_state_here", "_law_good"]) fun _ _ _ _ _ _ us hl => match us, hl with | [_, _], _ => rfl
    m__law_bad_name := He.glo_ok X G (c.t.d.fact 28 (f := .glo "_law_bad_name") rfl)
    a__law_bad_names := He.fAd K ("_law_bad_names", none)
    d__law_bad_names := d_law_bad_names
    F__law_bad_names := F_law_bad_names
    b__law_bad_names := F_law_bad_names.binds (ps := ["_law_state_here", "_law_names_here", "_law_most"]) fun _ _ _ _ _ _ us hl => match us, hl with | [_, _, _], _ => rfl
    m__law_bad_names := He.glo_ok X G (c.t.d.fact 29 (f := .glo "_law_bad_names") rfl)
    a__law_bad_pairs := He.fAd K ("_law_bad_pairs", none)
    d__law_bad_pairs := d_law_bad_pairs
    F__law_bad_pairs := F_law_bad_pairs
    b__law_bad_pairs := F_law_bad_pairs.binds (ps := ["_law_state_here", "_law_pairs", "_law_sources", "_law_most"]) fun _ _ _ _ _ _ us hl => match us, hl with | [_, _, _, _], _ => rfl
    m__law_bad_pairs := He.glo_ok X G (c.t.d.fact 30 (f := .glo "_law_bad_pairs") rfl)
    a__law_names_good := He.fAd K ("_law_names_good", none)
    d__law_names_good := d_law_names_good
    F__law_names_good := F_law_names_good
    b__law_names_good := F_law_names_good.binds (ps := ["_law_value", "_law_least", "_law_most"]) fun _ _ _ _ _ _ us hl => match us, hl with | [_, _, _], _ => rfl
    m__law_names_good := He.glo_ok X G (c.t.d.fact 31 (f := .glo "_law_names_good") rfl)
    a__law_pairs_good := He.fAd K ("_law_pairs_good", none)
    d__law_pairs_good := d_law_pairs_good
    F__law_pairs_good := F_law_pairs_good
    b__law_pairs_good := F_law_pairs_good.binds (ps := ["_law_value", "_law_most", "_law_taken"]) fun _ _ _ _ _ _ us hl => match us, hl with | [_, _, _], _ => rfl
    m__law_pairs_good := He.glo_ok X G (c.t.d.fact 32 (f := .glo "_law_pairs_good") rfl)
    a__law_first_fault := He.fAd K ("_law_first_fault", none)
    d__law_first_fault := d_law_first_fault
    F__law_first_fault := F_law_first_fault
    b__law_first_fault := F_law_first_fault.binds (ps := ["_law_parts_here"]) fun _ _ _ _ _ _ us hl => match us, hl with | [_], _ => rfl
    m__law_first_fault := He.glo_ok X G (c.t.d.fact 33 (f := .glo "_law_first_fault") rfl)
    a__law_first_part := He.fAd K ("_law_first_part", none)
    d__law_first_part := d_law_first_part
    F__law_first_part := F_law_first_part
    b__law_first_part := F_law_first_part.binds (ps := ["_law_script"]) fun _ _ _ _ _ _ us hl => match us, hl with | [_], _ => rfl
    m__law_first_part := He.glo_ok X G (c.t.d.fact 34 (f := .glo "_law_first_part") rfl)
    a__law_second_part := He.fAd K ("_law_second_part", none)
    d__law_second_part := d_law_second_part
    F__law_second_part := F_law_second_part
    b__law_second_part := F_law_second_part.binds (ps := ["_law_script"]) fun _ _ _ _ _ _ us hl => match us, hl with | [_], _ => rfl
    m__law_second_part := He.glo_ok X G (c.t.d.fact 35 (f := .glo "_law_second_part") rfl)
    a_law := He.fAd K ("law", none)
    d_law := d_law
    F_law := F_law
    b_law := F_law.binds (ps := ["_law_script"]) fun _ _ _ _ _ _ us hl => match us, hl with | [_], _ => rfl
    m_law := He.glo_ok X G (c.t.d.fact 36 (f := .glo "law") rfl)
    c_ToldError := He.ga K "ToldError"
    m_ToldError := He.glo_ok X G (c.t.d.fact 61 (f := .glo "ToldError") rfl)
    c_InvalidProgram := He.ga K "InvalidProgram"
    m_InvalidProgram := He.glo_ok X G (c.t.d.fact 62 (f := .glo "InvalidProgram") rfl)
    x_InvalidProgram := E_InvalidProgram.1
    xi_InvalidProgram := E_InvalidProgram.2.1
    xt_InvalidProgram := E_InvalidProgram.2.2.1
    n_InvalidProgram_part := E_InvalidProgram.2.2.2.1
    n_InvalidProgram_path := He.eqO_ok f_path
    xa_InvalidProgram := E_InvalidProgram.2.2.2.2.ga
    xg_InvalidProgram := E_InvalidProgram.2.2.2.2.gg
    xh_InvalidProgram := E_InvalidProgram.2.2.2.2.hdC
    xe_InvalidProgram := He.exm_ok (c.t.d.fact 63 (f := .exm "InvalidProgram" "InvalidProgram" true) rfl)
    c_InvalidPath := He.ga K "InvalidPath"
    m_InvalidPath := He.glo_ok X G (c.t.d.fact 64 (f := .glo "InvalidPath") rfl)
    c_UnknownCell := He.ga K "UnknownCell"
    m_UnknownCell := He.glo_ok X G (c.t.d.fact 65 (f := .glo "UnknownCell") rfl)
    x_UnknownCell := E_UnknownCell.1
    xi_UnknownCell := E_UnknownCell.2.1
    xt_UnknownCell := E_UnknownCell.2.2.1
    n_UnknownCell_name := E_UnknownCell.2.2.2.1
    xa_UnknownCell := E_UnknownCell.2.2.2.2.ga
    xg_UnknownCell := E_UnknownCell.2.2.2.2.gg
    xh_UnknownCell := E_UnknownCell.2.2.2.2.hdC
    xe_UnknownCell := He.exm_ok (c.t.d.fact 66 (f := .exm "UnknownCell" "UnknownCell" true) rfl)
    xn_UnknownCell_InvalidProgram := He.exm_ok (c.t.d.fact 67 (f := .exm "UnknownCell" "InvalidProgram" false) rfl)
    c_Scope := He.ga K "Scope"
    m_Scope := He.glo_ok X G (c.t.d.fact 68 (f := .glo "Scope") rfl)
    l_Scope := He.cls_ok (c.t.d.fact 69 (f := .cls "Scope") rfl)
    k_Scope := He.mkr_ok (c.t.d.fact 70 (f := .mkr "Scope") rfl)
    n_Scope_kind := He.noat_ok (c.t.d.fact 71 (f := .noat "Scope" "kind") rfl)
    n_Scope_words := He.noat_ok (c.t.d.fact 72 (f := .noat "Scope" "words") rfl)
    n_Scope_sources := He.noat_ok (c.t.d.fact 73 (f := .noat "Scope" "sources") rfl)
    n_Scope_readable := He.noat_ok (c.t.d.fact 74 (f := .noat "Scope" "readable") rfl)
    c_Program := He.ga K "Program"
    m_Program := He.glo_ok X G (c.t.d.fact 75 (f := .glo "Program") rfl)
    l_Program := He.cls_ok (c.t.d.fact 76 (f := .cls "Program") rfl)
    k_Program := He.mkr_ok (c.t.d.fact 77 (f := .mkr "Program") rfl)
    n_Program_words := He.noat_ok (c.t.d.fact 78 (f := .noat "Program" "words") rfl)
    n_Program_sources := He.noat_ok (c.t.d.fact 79 (f := .noat "Program" "sources") rfl)
    n_Program_derived := He.noat_ok (c.t.d.fact 80 (f := .noat "Program" "derived") rfl)
    n_Program_effects := He.noat_ok (c.t.d.fact 81 (f := .noat "Program" "effects") rfl)
    n_Program__derived_names := He.noat_ok (c.t.d.fact 82 (f := .noat "Program" "_derived_names") rfl)
    n_Program__effect_names := He.noat_ok (c.t.d.fact 83 (f := .noat "Program" "_effect_names") rfl)
    t_Program_cells := He.meth_ok (c.t.d.fact 84 (f := .meth "Program" "cells") rfl)
    t_Program_derived_names := He.meth_ok (c.t.d.fact 85 (f := .meth "Program" "derived_names") rfl)
    t_Program_effect_names := He.meth_ok (c.t.d.fact 86 (f := .meth "Program" "effect_names") rfl)
    t_Program_body := He.meth_ok (c.t.d.fact 87 (f := .meth "Program" "body") rfl)
    t_Program_row_paths := He.meth_ok (c.t.d.fact 88 (f := .meth "Program" "row_paths") rfl)
    t_Program_row_at := He.meth_ok (c.t.d.fact 89 (f := .meth "Program" "row_at") rfl)
    t_Program_with_row := He.meth_ok (c.t.d.fact 90 (f := .meth "Program" "with_row") rfl)
    i_Program := ownB_ok (He.cls_ok (c.t.d.fact 76 (f := .cls "Program") rfl)) f_own
    a_DERIVED_FORMS := He.ga K "DERIVED_FORMS"
    c_DERIVED_FORMS := He.glo_ok X G (c.t.d.fact 91 (f := .glo "DERIVED_FORMS") rfl)
    w_DERIVED_FORMS := ⟨es_DERIVED_FORMS, n_DERIVED_FORMS, L_DERIVED_FORMS, Y_DERIVED_FORMS, S_DERIVED_FORMS⟩
    w_DERIVED_FORMS_read := kdct_of L_DERIVED_FORMS Y_DERIVED_FORMS (V_DERIVED_FORMS ("read", He.Dv.glo "is_read_row") (by simp))
    w_DERIVED_FORMS_put := kdct_of L_DERIVED_FORMS Y_DERIVED_FORMS (V_DERIVED_FORMS ("put", He.Dv.glo "is_put_row") (by simp))
    w_DERIVED_FORMS_if := kdct_of L_DERIVED_FORMS Y_DERIVED_FORMS (V_DERIVED_FORMS ("if", He.Dv.glo "is_if_row") (by simp))
    w_DERIVED_FORMS_give := kdct_of L_DERIVED_FORMS Y_DERIVED_FORMS (V_DERIVED_FORMS ("give", He.Dv.glo "is_slot_row") (by simp))
    a_EFFECT_FORMS := He.ga K "EFFECT_FORMS"
    c_EFFECT_FORMS := He.glo_ok X G (c.t.d.fact 92 (f := .glo "EFFECT_FORMS") rfl)
    w_EFFECT_FORMS := ⟨es_EFFECT_FORMS, n_EFFECT_FORMS, L_EFFECT_FORMS, Y_EFFECT_FORMS, S_EFFECT_FORMS⟩
    w_EFFECT_FORMS_read := kdct_of L_EFFECT_FORMS Y_EFFECT_FORMS (V_EFFECT_FORMS ("read", He.Dv.glo "is_read_row") (by simp))
    w_EFFECT_FORMS_peek := kdct_of L_EFFECT_FORMS Y_EFFECT_FORMS (V_EFFECT_FORMS ("peek", He.Dv.glo "is_read_row") (by simp))
    w_EFFECT_FORMS_put := kdct_of L_EFFECT_FORMS Y_EFFECT_FORMS (V_EFFECT_FORMS ("put", He.Dv.glo "is_put_row") (by simp))
    w_EFFECT_FORMS_if := kdct_of L_EFFECT_FORMS Y_EFFECT_FORMS (V_EFFECT_FORMS ("if", He.Dv.glo "is_if_row") (by simp))
    w_EFFECT_FORMS_write := kdct_of L_EFFECT_FORMS Y_EFFECT_FORMS (V_EFFECT_FORMS ("write", He.Dv.glo "is_write_row") (by simp))
    w_EFFECT_FORMS_say := kdct_of L_EFFECT_FORMS Y_EFFECT_FORMS (V_EFFECT_FORMS ("say", He.Dv.glo "is_slot_row") (by simp))
    xc_InvalidProgram := askB_ok f_ask
    xk_ToldError := of_decide_eq_true f_told
    xk_ValueError := of_decide_eq_true f_val
    xk_InvalidPath := of_decide_eq_true f_bad
    xq_Program := He.eqO_ok f_eq
    xf_Program := f_fn
  }, fun s u => law_binds (ps := ["_law_script"]) F_law (fun _ _ _ _ _ _ us hl => match us, hl with | [_], _ => rfl) s [u] rfl⟩
abbrev R : PySem.W.OpenRow := PySem.W.OpenLaw.row PySem.Challenge.rw_toldonward_k01_program_keeps_its_parts
abbrev hk : PySem.W.Hook := hookU 5 fa fn ts us ex
def ob (s : PySem.W.SharedT) : AlU := obsU 5 fa fn ts us ex (HandSHeadRun.getT s)
theorem ob_eq (s : PySem.W.SharedT) : ob s = hk.obs s.abs := obsU_eq (HandSHeadRun.getT_eq s)
def loose0 : List Str := ["_wall", "LONGEST_NAME", "is_name", "are_names", "are_named_pairs", "ToldError", "InvalidProgram", "InvalidPath", "UnknownCell", "MOST_ROWS", "DEEPEST_IF", "Scope", "is_read_row", "is_put_row", "is_if_row", "is_slot_row", "is_write_row", "DERIVED_FORMS", "EFFECT_FORMS", "check_of", "is_valid_row", "first_wrong_path", "paths_of_rows", "LEAST_WORDS", "MOST_WORDS", "LEAST_SOURCES", "MOST_SOURCES", "MOST_DERIVED", "MOST_EFFECTS", "Program"]
def loose1 : List Str := ["names_of", "check_parts", "check_bodies", "check_body", "_law_state", "_law_draw", "_law_names", "_law_many", "_law_row", "_law_rows", "_law_parts", "_law_all_paths", "_law_paths", "_law_other", "_law_unknown", "_law_is_name", "_law_bad_name", "_law_bad_names", "_law_bad_pairs", "_law_names_good", "_law_pairs_good", "_law_first_fault", "_law_first_part", "_law_second_part"]
def loose : List Str := loose0 ++ (loose1)
end K01
namespace K01
open PySem PySem.Spec PyProof.Rows L2 Td
abbrev RunOk (w : World) : Prop := HandSHeadRun.RunEq R (PySem.W.view R.prog [59]) hk ob 8000 loose w
theorem run_f (w : World) : RunOk (w.withFollow "special-get-raises" false) := by
  intro os
  kernel_rfl
theorem run_t (w : World) : RunOk (w.withFollow "special-get-raises" true) := by
  intro os
  kernel_rfl
theorem run (w : World) : HandSHeadRun.RunEq R (PySem.W.view R.prog [59]) hk ob 8000 loose w := PySem.W.byRow2 "special-get-raises" (P := RunOk) run_f run_t w
end K01
open PySem PySem.W PySem.Calls PyProof.Rows
set_option maxRecDepth 100000 in
set_option maxHeartbeats 0 in
theorem PySem.Challenge.cw_toldonward_k01_program_keeps_its_parts_holds : PySem.Challenge.rw_toldonward_k01_program_keeps_its_parts.Holds := by
  w_on; o_law
  refine HandSHeadRun.head_any (r := OpenLaw.row PySem.Challenge.rw_toldonward_k01_program_keeps_its_parts) (q := view (OpenLaw.row PySem.Challenge.rw_toldonward_k01_program_keeps_its_parts).prog [59]) (H := K01.hk) (ob := K01.ob) (M := 8000) (loose := K01.loose) (d := HandSHeadRun.topDef (OpenLaw.row PySem.Challenge.rw_toldonward_k01_program_keeps_its_parts).prog 59) (kwd := []) K01.ob_eq
    (by kernel_rfl) (fun s => by kernel_rfl) K01.run (by kernel_rfl) (by kernel_rfl) (by kernel_rfl) (by rfl) (by first | assumption | decide +kernel) (by decide +kernel) ⟨rfl, rfl, rfl, rfl, rfl, by decide +kernel⟩ ?hw ?hc
  case hw => w_witness2
  case hc =>
    refine L2.walk_ofE (l := PySem.Challenge.rw_toldonward_k01_program_keeps_its_parts) (n := 63) (k := 13) (x := "_law_script") (CX := L2.CX0) rfl (by decide) (by kernel_rfl) ⟨rfl, by decide, by decide⟩ ?F (fun _ _ _ _ z => z)
    intro w mg fa h Y G hmg0
    obtain ⟨K, KX, c⟩ := Y
    have hmg : mg ("law" : PySem.Str) = some (.ref fa) := by
      have e : (HandSHeadRun.topDef (OpenLaw.row PySem.Challenge.rw_toldonward_k01_program_keeps_its_parts).prog 59).name = ("law" : PySem.Str) := by kernel_rfl
      rw [← e]
      exact hmg0
    obtain ⟨T, hb⟩ := K01.tops KX G c
    have e := hmg.symm.trans T.m_law
    cases e
    exact ⟨K, T.d_law, K01.spLaw K, KX, hb, fun H a ns hl _ hS => ⟨a, ns, rfl, hS, hl, fun _ => rfl⟩, fun base _ _ => K01.law_of T⟩
