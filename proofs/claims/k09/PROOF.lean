import PyProof.Rows.All
import Wide.All
import OpenK.AllK
import Wide.FinOn
import HandS.ForMost
import HandS.ForExc
import HandS.SetKeys
import HandS.Strs
import HandS.Set
import HandS.More
import HandS.Wide
import HandS.IsInst
import HandS.ExcInit
import HandS.CallLocal
import HandS.TupAny
import HandS.Codes
import KE.GoesEnum
import HandS.WrittenGet
import HandS.Nested
import HandS.HeadWalk
import KE.KSuper
import HandS.ExcField
import HandS.TryMany
import HandS.OwnEq
import KE.KExcIs
import HandS.ExcIs
import HandS.ExcOwn
import HandS.DeepEq
import PyProof.EqLayable
import KE.KDictDisplayH
import HandS.DictComp
import HandS.Iter
import HandS.Zip
import HandS.Comp
import HandS.HeadHook4
import HandS.HeadEnd
import HandS.Head2
import HandS.Defaults
import HandS.MakeKwOnly
import HandS.TupLe
import PySem.Challenge.RW_toldonward_k09_deeds
set_option Elab.async false
set_option maxRecDepth 100000
set_option maxHeartbeats 0
set_option linter.all false
/-! Own rules beside the hand layer: for any program. -/
namespace TdSet
open PySem PySem.Spec PyProof.Rows SS
/-- how many different ones stand among the first i -/
def dcnt (xs : List Str) : Nat → Nat
  | 0 => 0
  | i + 1 => if (xs.take i).any (· == xs.getD i Str.empty) = true then dcnt xs i else dcnt xs i + 1
theorem dcnt_le (xs : List Str) : ∀ i, dcnt xs i ≤ i
  | 0 => Nat.le_refl _
  | i + 1 => by
    have := dcnt_le xs i
    unfold dcnt
    split <;> omega
theorem dcnt_full {xs : List Str} : ∀ {i : Nat}, i ≤ xs.length → dcnt xs i = i → (xs.take i).Nodup
  | 0, _, _ => by simp
  | i + 1, hi, h => by
    have hl := dcnt_le xs i
    unfold dcnt at h
    split at h
    · omega
    · rename_i hn
      have ih := dcnt_full (xs := xs) (i := i) (by omega) (by omega)
      have hx : i < xs.length := by omega
      rw [List.take_succ_eq_append_getElem hx]
      refine List.nodup_append.mpr ⟨ih, by simp, ?_⟩
      intro a ha b hb hab
      have e : b = xs[i] := by simpa using hb
      apply hn
      refine List.any_eq_true.mpr ⟨a, ha, ?_⟩
      rw [hab, e, List.getD_eq_getElem?_getD, List.getElem?_eq_getElem hx]
      simp
theorem dcnt_nodup {xs : List Str} : ∀ {i : Nat}, i ≤ xs.length → (xs.take i).Nodup → dcnt xs i = i
  | 0, _, _ => rfl
  | i + 1, hi, h => by
    have hx : i < xs.length := by omega
    rw [List.take_succ_eq_append_getElem hx] at h
    obtain ⟨h1, _, h3⟩ := List.nodup_append.mp h
    have ih := dcnt_nodup (xs := xs) (i := i) (by omega) h1
    unfold dcnt
    rw [if_neg, ih]
    intro hh
    obtain ⟨a, ha, hb⟩ := List.any_eq_true.mp hh
    rw [List.getD_eq_getElem?_getD, List.getElem?_eq_getElem hx] at hb
    exact h3 a ha xs[i] (by simp) (by simpa using hb)
/-- the set at S has met the first i texts -/
def Met (prog : Program) (w : World) (S : Addr) (xs : List Str) (i : Nat) (h : Heap) : Prop := h.SetOf (PySem.strKind prog w) S (fun z => (xs.take i).any (· == z)) (dcnt xs i)
theorem Met.move {prog : Program} {w : World} {S : Addr} {xs : List Str} {i : Nat} {h h' : Heap} (m : Met prog w S xs i h) (k : ∀ o, h.get? S = some o → h'.get? S = some o) : Met prog w S xs i h' := by
  obtain ⟨o, es, ep, tb, e, r⟩ := m
  exact ⟨o, es, ep, tb, k o e, r⟩
/-- one text more -/
theorem Met.more {prog : Program} {w : World} {S : Addr} {xs : List Str} {i : Nat} {h : Heap} {z : Str} (hz : xs[i]? = some z)
    (m : h.SetOf (PySem.strKind prog w) S (fun y => (xs.take i).any (· == y) || decide (y = z)) (if (xs.take i).any (· == z) = true then dcnt xs i else dcnt xs i + 1)) : Met prog w S xs (i + 1) h := by
  have e : xs.take (i + 1) = xs.take i ++ [z] := by rw [List.take_add_one, hz]; rfl
  refine SetOf_congr m (fun y => ?_) ?_
  · rw [e, List.any_append]
    congr 1
    by_cases q : y = z
    · rw [q]; simp
    · have : ¬ z = y := fun h => q h.symm
      simp [q, this]
  · show _ = (if (xs.take i).any (· == xs.getD i Str.empty) = true then dcnt xs i else dcnt xs i + 1)
    rw [List.getD_eq_getElem?_getD, hz]
    rfl
section
variable {prog : Program} {w : World} {A : Around} {R : Result → Shared → Prop} {I S : Addr} {fp wr : List Addr} {G : Array GenState → Array GenState → Prop} {i : Nat} {P : Nat → Value → Prop} {St : Nat → Shared → Prop} {xs : List Str} {s : Shared}
/-- an iterator whose item i is the text i of xs -/
structure Turns (prog : Program) (w : World) (A : Around) (I : Addr) (fp wr : List Addr) (G : Array GenState → Array GenState → Prop) (xs : List Str) (P : Nat → Value → Prop) (St : Nat → Shared → Prop) : Prop where
  walks : WalksS prog w A I fp wr G xs.length P St
  texts : ∀ i v, P i v → ∃ z t, xs[i]? = some z ∧ v = .str z t
/-- the loop's code, one round of it -/
theorem round_of (h : wpAny (model prog w) A.in1 (Builtin.«set.update.loop» ⟨[.ref S, .ref I], []⟩) (fun fin s' => match fin with | .done f => R (.ok f) s' | .again c => c.quiet = true ∧ codeAny (model prog w) A c R s') (fun e s' => R (.error e) s') s) :
    codeAny (model prog w) A (.builtin "set.update.loop" ⟨[.ref S, .ref I], []⟩) R s :=
  codeAny_builtin PyProof.Rows.F.entry_set_update_loop (by rw [Around.under_plainId PyProof.Rows.F.plain_set_update_loop _]; exact h)
theorem last_round (W : Turns prog w A.in1 I fp wr G xs P St) (ns : S ∉ wr) (hst : St xs.length s) (hS : Met prog w S xs xs.length s.heap)
    (fin : ∀ s', Moved wr G s s' → Met prog w S xs xs.length s'.heap → R (.ok (.ret .none)) s') : codeAny (model prog w) A (.builtin "set.update.loop" ⟨[.ref S, .ref I], []⟩) R s :=
  round_of (wpAny_bind (W.walks.done s _ _ hst fun s' hm => wpAny_pure (fin s' hm (hS.move fun o e => hm.heap S o ns e))))
theorem next_round (W : Turns prog w A.in1 I fp wr G xs P St) (hf : S ∉ fp) (hn : xs.length < 4000) (hi : i < xs.length) (hst : St i s) (hS : Met prog w S xs i s.heap)
    (go : ∀ s', St (i + 1) s' → Met prog w S xs (i + 1) s'.heap → Moved (S :: wr) G s s' → codeAny (model prog w) A (.builtin "set.update.loop" ⟨[.ref S, .ref I], []⟩) R s') :
    codeAny (model prog w) A (.builtin "set.update.loop" ⟨[.ref S, .ref I], []⟩) R s := by
  refine round_of (wpAny_bind (W.walks.item i s _ _ hi hst fun v s1 hv st1 m1 => ?_))
  obtain ⟨z, t, hz, rfl⟩ := W.texts i v hv
  have hd := dcnt_le xs i
  have S1 := hS.move fun o e => m1.heap S o (fun h => hf (W.walks.sub _ h)) e
  refine wpAny_bind (wpAny_holding (wpAny_holding (wpAny_bind ((PySem.strKind prog w).pyHash (k := z) (strKind_is _ _ _ _) (wpAny_setAddHashed_of (knd := PySem.strKind prog w) (s := { s1 with toks := s1.toks + 1 }) (strKind_is _ _ _ _) rfl S1 (by unfold scanBound; omega) fun h2 sb S2 => ?_)))))
  have keep : ∀ b o, b ≠ S → s1.heap.get? b = some o → h2.get? b = some o := fun b o nb e => by rw [sb.2 b nb]; exact e
  refine wpAny_pure ⟨plainId_quiet PyProof.Rows.F.plain_set_update_loop _, go _ (W.walks.frame _ s1 _ _ st1 (Nat.le_succ _) fun b hb o e => keep b o (fun q => hf (q ▸ hb)) e) (Met.more hz S2) ?_⟩
  exact (m1.mono fun b hb => List.mem_cons_of_mem _ hb).then_heap (Nat.le_succ _) fun b o hb e => keep b o (fun q => hb (q ▸ List.mem_cons_self)) e
theorem rounds (W : Turns prog w A.in1 I fp wr G xs P St) (hf : S ∉ fp) (hn : xs.length < 4000) : ∀ (left i : Nat) (s : Shared), i + left = xs.length → St i s → Met prog w S xs i s.heap →
    (∀ s', Moved (S :: wr) G s s' → Met prog w S xs xs.length s'.heap → R (.ok (.ret .none)) s') → codeAny (model prog w) A (.builtin "set.update.loop" ⟨[.ref S, .ref I], []⟩) R s
  | 0, i, s, e, st, m, fin => by
    have e : i = xs.length := e
    subst e
    exact last_round W (fun h => hf (W.walks.sub _ h)) st m fun s' mv m' => fin s' (mv.mono fun b hb => List.mem_cons_of_mem _ hb) m'
  | left + 1, i, s, e, st, m, fin =>
    next_round W hf hn (by omega) st m fun s1 st1 m1 mv1 => rounds W hf hn left (i + 1) s1 (by omega) st1 m1 fun s2 mv2 m2 => fin s2 (Moved.trans W.walks.gtrans mv1 mv2) m2
end
section
variable {prog : Program} {w : World} {A : Around} {E : Value → Shared → Prop} {s : Shared}
/-- the new set's own beginning: it takes the tuple's texts -/
theorem init_texts {R : Result → Shared → Prop} {S l : Addr} {o : Obj} {items : Array Value} {xs : List Str} {led : Bool} (hh : A.handled = none) (hS : s.heap.get? S = some { cls := .type "set", dict := none, data := .set #[] 0 (.fresh 0 0 led) })
    (ho : s.heap.get? l = some o) (hc : o.cls = .type "tuple") (hd : ∃ nl, o.data = .seq items nl) (hne : l ≠ S) (hi : PyProof.Rows.StrsAre items.toList xs) (hn : xs.length < 4000)
    (fin : ∀ (h' : Heap) (tk : Nat), Met prog w S xs xs.length h' → (∀ b u, b ≠ S → s.heap.get? b = some u → h'.get? b = some u) → R (.ok (.ret .none)) { s with heap := h', toks := tk }) :
    wpAny (model prog w) A.in1 (Builtin.«set.__init__» ⟨[.ref S, .ref l], []⟩) (fun fin s' => match fin with | .done f => R (.ok f) s' | .again c => c.quiet = true ∧ codeAny (model prog w) A c R s') (fun e s' => R (.error e) s') s := by
  have ht : s.heap.IsTuple l items := let ⟨nl, e⟩ := hd; ⟨o, ho, hc, nl, e⟩
  have q1 : s.TypeIs (.ref l) "tuple" := ⟨o, ho, hc⟩
  have q2 := PySem.F.sub_tuple_set
  have q3 := PySem.F.sub_tuple_frozenset
  have q4 : (Value.type "tuple" == Value.type "dict") = false := by decide
  unfold Builtin.«set.__init__» noKeywords Builtin.Frozenset.updateFrom
  generalize ePI : pyIter = PI
  wp_walk
  subst ePI
  refine wpAny_pyIter_tuple ht (wpAny_bind (wpAny_runValue ?_))
  have sz : (s.heap.push { cls := .type "tuple_iterator", data := .fields #[.ref l, .int 0 0] }).objs.size = s.heap.objs.size + 1 := Heap.size_push ..
  have lS : S < s.heap.objs.size := Heap.lt_size hS
  have ll : l < s.heap.objs.size := Heap.lt_size ho
  have len : xs.length = items.size := by rw [← StrsAre.len_eq hi, Array.length_toList]
  have W0 := (Walks.tuple (prog := prog) (w := w) (A := A.in1.in1) (by simpa using hh) s.heap.objs.size l (Nat.ne_of_lt ll) items).toS
  rw [← len] at W0
  have nf : S ∉ [s.heap.objs.size, l] := fun m => by
    rcases List.mem_cons.mp m with e | e
    · exact absurd (e ▸ lS) (Nat.lt_irrefl _)
    · exact hne (List.mem_singleton.mp e).symm
  have M0 : Met prog w S xs 0 (s.heap.push { cls := .type "tuple_iterator", data := .fields #[.ref l, .int 0 0] }) :=
    PyProof.Rows.SetOf_congr ((PyProof.Rows.setObjOf_fresh (knd := PySem.strKind prog w) led).setOf (Heap.get?_push_of_some _ hS) (by unfold scanBound; omega)) (fun _ => rfl) rfl
  refine rounds ⟨W0, fun i v hv => ?_⟩ nf hn xs.length 0 { s with heap := s.heap.push { cls := .type "tuple_iterator", data := .fields #[.ref l, .int 0 0] } } (Nat.zero_add _) ⟨⟨_, Heap.get?_push_size _ rfl, rfl, rfl⟩, ht.push _⟩ M0 fun s2 mv m => ?_
  · obtain ⟨t, e⟩ := strs_at hi i v (by rw [Array.getElem?_toList]; exact hv)
    have hx : i < xs.length := by rw [len]; exact (Array.getElem?_eq_some_iff.mp hv).1
    exact ⟨xs[i], t, List.getElem?_eq_getElem hx, by rw [e, List.getD_eq_getElem?_getD, List.getElem?_eq_getElem hx]; rfl⟩
  · obtain ⟨h2, g2, d2, t2, o2⟩ := s2
    cases (show g2 = s.gens from mv.gens)
    cases (show d2 = s.drawn from mv.drawn)
    cases (show o2 = s.os from mv.os)
    refine wpAny_pure (wpAny_pure (fin h2 t2 m fun b u nb e => mv.heap b u (fun q => ?_) (Heap.get?_push_of_some _ e)))
    rcases List.mem_cons.mp q with q | q
    · exact nb q
    · have := Heap.lt_size e
      rw [List.mem_singleton.mp q] at this
      exact Nat.lt_irrefl _ this
end
section
variable {prog : Program} {w : World} {A : Around} {E : Value → Shared → Prop} {s : Shared}
/-- set(x), over what the new set begins with -/
theorem set_by {x : Value} {Q : Value → Shared → Prop} (go : ∀ led : Bool, wpAny (model prog w) A.in1.in1 (Builtin.«set.__init__» ⟨[.ref s.heap.objs.size, x], []⟩)
      (fun fin s' => match fin with | .done f => wants (fun r s2 => r = .none ∧ s2.TypeIs (.ref s.heap.objs.size) "set" ∧ Q (.ref s.heap.objs.size) s2) E (.ok f) s' | .again c => c.quiet = true ∧ codeAny (model prog w) A.in1 c (wants (fun r s2 => r = .none ∧ s2.TypeIs (.ref s.heap.objs.size) "set" ∧ Q (.ref s.heap.objs.size) s2) E) s')
      (fun e s' => wants (fun r s2 => r = .none ∧ s2.TypeIs (.ref s.heap.objs.size) "set" ∧ Q (.ref s.heap.objs.size) s2) E (.error e) s')
      { s with heap := s.heap.push { cls := .type "set", dict := none, data := .set #[] 0 (.fresh 0 0 led) } }) :
    wpAny (model prog w) A (call (.type "set") [x]) Q E s := by
  have k1 := PySem.F.called_set
  obtain ⟨c, tl, k2⟩ := k1.mro
  have k3 := k1.made
  have k4 := k1.sub
  have k5 := k1.notType
  have k6 := k1.canCreate
  have k7 := PySem.F.typeCall_set_1 x
  refine wpAny_call (codeAny_of_tree (wpAny_pure ⟨Code.quiet_builtin _ (by decide +kernel), codeAny_builtin PySem.F.entry_type_call ?_⟩))
  rw [Around.under_plain (weight_type_call_type "set" [x] []) rfl]
  repeat (any_goals (first | assumption | wp_step))
  refine codeAny_mono (code_set_new_1 x (E := E) (Q₁ := fun y s1 => ∃ led : Bool, y = .ref s.heap.objs.size ∧ s1 = { s with heap := s.heap.push { cls := .type "set", dict := none, data := .set #[] 0 (.fresh 0 0 led) } }) fun led => ⟨led, rfl, rfl⟩) fun r s1 hr => ?_
  match r, hr with
  | .error e, hr => exact hr
  | .ok (.ret y), hr =>
    obtain ⟨led, rfl, rfl⟩ := hr
    have k8 := k1.init.lookup
    have k9 := k1.init.bind (.ref s.heap.objs.size)
    have ty : Shared.TypeIs { s with heap := s.heap.push { cls := .type "set", dict := none, data := .set #[] 0 (.fresh 0 0 led) } } (.ref s.heap.objs.size) "set" := ⟨_, Heap.get?_push_size _ rfl, rfl⟩
    repeat (any_goals (first | assumption | wp_step))
    refine codeAny_mono (codeAny_call_builtin k1.init.plain PySem.F.entry_set_init (check_set_init_1 ty (go led))) fun r2 s2 h2 => ?_
    match r2, h2 with
    | .error e, h2 => exact h2
    | .ok (.ret y), h2 =>
      obtain ⟨rfl, ty2, q⟩ := h2
      repeat (any_goals (first | assumption | wp_step))
/-- set(t) of a tuple of texts -/
theorem set_of_texts {l : Addr} {items : Array Value} {xs : List Str} {Q : Value → Shared → Prop} (hh : A.handled = none) (hl : s.heap.IsTuple l items) (hi : PyProof.Rows.StrsAre items.toList xs) (hn : xs.length < 4000)
    (q : ∀ (h' : Heap) (tk : Nat), Met prog w s.heap.objs.size xs xs.length h' → (∀ b u, s.heap.get? b = some u → h'.get? b = some u) → Q (.ref s.heap.objs.size) { s with heap := h', toks := tk }) :
    wpAny (model prog w) A (call (.type "set") [.ref l]) Q E s := by
  obtain ⟨o, ho, hc, hd⟩ := hl
  have lt := Heap.lt_size ho
  refine set_by fun led => init_texts (A := A.in1) (by simpa using hh) (Heap.get?_push_size _ rfl) (Heap.get?_push_of_some _ ho) hc hd (Nat.ne_of_lt lt) hi hn fun h' tk m k => ⟨rfl, ?_, q h' tk m fun b u e => k b u (Nat.ne_of_lt (Heap.lt_size e)) (Heap.get?_push_of_some _ e)⟩
  exact PySem.Heap.SetOf.typeIs (s := { s with heap := h', toks := tk }) m
end
end TdSet
namespace Td
open PySem PySem.Spec PyProof.Rows L2
section
variable {X : Cx}
/-- len(set(t)), t a tuple of texts -/
def tLenSetT (K : PySem.W.Frag) (t : TE) : TE := fun σ H Q => t σ H fun x H1 => ∃ (l : Addr) (xs : List Str), x = .ref l ∧ SqT K H1 l (xs.map V.str) ∧ xs.length < 4000 ∧ Q (.int (TdSet.dcnt xs xs.length : Nat)) H1
theorem pe_lenSetT {a : Expr} {t : TE} {p p2 q pos : Pos} (hc : X.calm = true) (g1 : Gl X "len") (m1 : X.mg "len" = none) (g2 : Gl X "set") (m2 : X.mg "set" = none) (ha : PE X a t)
    (na : starEach [a] X.env = (false, eval a X.env) :: starEach [] X.env := by rfl) (no : starEach [.Call (.Name "set" p2) [a] [] q] X.env = (false, eval (.Call (.Name "set" p2) [a] [] q) X.env) :: starEach [] X.env := by rfl) :
    PE X (.Call (.Name "len" p) [.Call (.Name "set" p2) [a] [] q] [] pos) (tLenSetT X.K t) := by
  refine ⟨fun pins s σ H Q I h => wpAny_Call_Name_kw (ld_blt I g1 m1 boot_len (PyProof.Rows.callWith_builtin1 (PyProof.Rows.args_cons (wpAny_Call_Name_kw (ld_blt I g2 m2 boot_set (PyProof.Rows.callWith_type1 (PyProof.Rows.args_cons (thn (ha.run pins s σ H _ I h) fun v s1 ⟨x, H1, I1, r1, l, xs, ex, hq, hn, k⟩ => PyProof.Rows.args_nil ?_) na) na rfl))) no) no rfl))⟩
  subst ex
  cases r1
  obtain ⟨us, r, tp, _⟩ := I1.tuple hq
  refine TdSet.set_of_texts (I1.ok.hd hc) tp (xs := xs) (by simpa using strsAre_of r) hn fun h' tk m kp => PyProof.Rows.args_nil ?_
  have J : Inv X pins σ H1 { s1 with heap := h', toks := tk } := I1.kept kp
  have dl := TdSet.dcnt_le xs xs.length
  obtain ⟨o, es, ep, tb, e1, e2, e3, _, _, _, e7, e8⟩ := m
  exact call_len_set e1 e2 e3 e7 (by rw [e8]; omega) ⟨.int (TdSet.dcnt xs xs.length : Nat), H1, J.tok _, ⟨_, by rw [e8]⟩, k⟩
end
/-- xs[i] op= e on a list -/
def rGetL : V → V → Hp → VK → Prop := fun o i H Q => ∃ p xs k v, o = .ref p ∧ i = .int k ∧ H p = some (.lst xs) ∧ atI xs k = some v ∧ Q v H
end Td
namespace Td
open PySem PySem.Spec PyProof.Rows L2
section
variable {X : Cx}
/-! ### a written dict, asked by .get -/
def KTab (K : PySem.W.Frag) (w : World) (a : Addr) : Prop :=
  ∃ es n, K.lookup a = some ⟨.type "dict", none, .dict es n, #[]⟩ ∧ PySem.W.KeysLit w.params es.toList ∧ (a == sysModules) = false
def tKGet (K : PySem.W.Frag) (w : World) (td ty : TE) : TE := fun σ H Q => td σ H fun x H1 => ∃ a, x = .ref a ∧ KTab K w a ∧
  ty σ H1 fun y H2 => ∃ z, y = .str z ∧ ((∃ v, KDct K w a z v ∧ Q v H2) ∨ (PySem.W.nsIn K a z = some none ∧ Q .non H2))
theorem pe_kget {o e : Expr} {td ty : TE} {apos cpos : Pos} (ho : PE X o td) (he : PE X e ty) (m : M1 X o "get" apos e cpos) :
    PE X (.Call (.Attribute o "get" apos) [e] [] cpos) (tKGet X.K X.w td ty) := by
  refine ⟨fun pins s σ H Q I h => ?_⟩
  refine wpAny_Call_method m.base m.few m.line PySem.F.plainAttrs_dict PySem.F.slot_dict_get PySem.F.type_dict_get
    (thn (ho.run pins s σ H _ I h) fun u s1 ⟨x, H1, I1, rx, a, ex, ⟨es, n, hl, hk, low⟩, q1⟩ => ?_)
  subst ex
  obtain rfl : u = Value.ref a := rx
  have hm := PySem.W.mapOf_K (prog := X.prog) (w := X.w) I1.kIn hl hk
  refine ⟨hm.typeIs, hm.noDict, ?_⟩
  rw [m.trees]
  refine Calls.callWith_builtin rfl (Calls.evalArgs_plain (Calls.spliced_cons
    (thn (he.run pins s1 σ H1 _ I1 q1) fun iv s2 ⟨y, H2, I2, ry, z, ey, q2⟩ => Calls.spliced_nil ?_)))
  subst ey
  obtain ⟨t, rfl⟩ := ry
  have hm2 := PySem.W.mapOf_K (prog := X.prog) (w := X.w) I2.kIn hl hk
  rcases q2 with ⟨v, ⟨es', n', u0, hl', hk', e0, ru⟩, q⟩ | ⟨e0, q⟩
  · refine call_meetsIn PySem.F.slot_dict_get hm2.typeIs PySem.F.entry_dict_get (PySem.F.args_dict_get_2 _ _)
      (meets_dict_get (strKind X.prog X.w) a (strKind_is X.prog X.w z t) low) ⟨_, hm2, ?_⟩
    have := PySem.W.find_K hl e0
    rw [this]
    exact ⟨v, H2, I2.tok _, ru, q⟩
  · refine call_meetsIn PySem.F.slot_dict_get hm2.typeIs PySem.F.entry_dict_get (PySem.F.args_dict_get_2 _ _)
      (meets_dict_get (strKind X.prog X.w) a (strKind_is X.prog X.w z t) low) ⟨_, hm2, ?_⟩
    have := PySem.W.find_K hl e0
    rw [this]
    exact ⟨.non, H2, I2.tok _, rfl, q⟩

/-! ### xs[i] of a list, by values -/
def rGetLi (K : PySem.W.Frag) : V → V → Hp → VK → Prop := fun o i H Q => ∃ (p : Addr) (xs : List V) (k : Nat) (v : V), o = .ref p ∧ i = .int (k : Nat) ∧ SqL K H p xs ∧ xs[k]? = some v ∧ Q v H
theorem get_list : PGet X (rGetLi X.K) := by
  intro pins s σ H o i ov iv Q I ro ri h
  obtain ⟨p, xs, k, v, rfl, rfl, hp, hv, q⟩ := h
  obtain ⟨its, r, pl, hz⟩ := I.list hp
  obtain rfl : ov = Value.ref p := ro
  obtain ⟨t, rfl⟩ := ri
  obtain ⟨w, ew, rw'⟩ := r.get hv
  have hn := line63
  have hk := (List.getElem?_eq_some_iff.mp hv).1
  have fin : EP X pins σ Q w s := ⟨v, H, I, rw', q⟩
  exact wpAny_getItem_list pl.isList (by omega) (by omega) (by rw [Int.toNat_natCast, List.getElem?_toArray]; exact ew) fin
end
/-! ### enumerate of a tuple -/
def IteT (K : PySem.W.Frag) (a : Addr) : It :=
  ⟨fun i H => ∃ (xs : List V) (x : V), SqT K H a xs ∧ xs[i]? = some x,
   fun i H v H' => ∃ T x, v = .ref T ∧ H T = none ∧ H' = upd H T (.tup [.int (i : Nat), x]) ∧ ∀ xs, SqT K H a xs → xs[i]? = some x,
   fun i H => ∃ xs : List V, SqT K H a xs ∧ xs.length = i⟩
theorem turn_enumT {P : Program} {w : World} {K : PySem.W.Frag} {elts : List Expr} {kk : Nat} {tpos : Pos} (a e it : Addr) :
    Turn P w K (.Tuple elts kk tpos) (IteT K a) [e, it] e
      (fun i h => (∃ old, IsEnum h e it ((i : Nat) : Int) old) ∧ h.IsTupleIter it a i ∧ e ≠ it) where
  mem := by simp
  obj := fun i h st b hb => by
    obtain ⟨⟨old, he⟩, ⟨o, ho, hc, hd⟩, _⟩ := st
    have e' : b = e ∨ b = it := by simpa using hb
    rcases e' with z | z
    · subst z; exact ⟨_, he, fun v q => nomatch q⟩
    · subst z; exact ⟨o, ho, fun v q => by rw [hd] at q; cases q⟩
  keep := fun i h h' st k => by
    obtain ⟨⟨old, he⟩, hi, hne⟩ := st
    exact ⟨⟨old, k e (by simp) _ he⟩, hi.at fun o q => k it (by simp) o q, hne⟩
  item := by
    intro X hP hw hK hc i pins s σ H E I hf st hg
    subst hP hw hK
    obtain ⟨⟨old, he⟩, hit, hne⟩ := st
    obtain ⟨xs, x, hq, hx⟩ := hg
    obtain ⟨its, rv, p, hz⟩ := I.tuple hq
    obtain ⟨u, hu, ru⟩ := rv.get hx
    have hel : e < s.heap.objs.size := Heap.lt_size he
    have hil : it < s.heap.objs.size := by obtain ⟨_, q, _⟩ := hit; exact Heap.lt_size q
    have hai : a ≠ it := fun z => by
      obtain ⟨o1, g1, c1, _⟩ := hit
      obtain ⟨o2, g2, c2, _⟩ := p
      rw [z, g1] at g2
      cases g2
      rw [c1] at c2
      exact absurd c2 (by decide)
    have hae : a ≠ e := fun z => by
      obtain ⟨o2, g2, c2, _⟩ := p
      rw [z, show s.heap.get? e = some _ from he] at g2
      cases g2
      change Value.type "enumerate" = Value.type "tuple" at c2
      exact absurd c2 (by decide)
    have hh : X.A.in1.handled = none := by simp [I.ok.hd hc]
    have D := Draws.tuple (prog := X.prog) (w := X.w) hh it a hai its.toArray
    have hlt : i < its.toArray.size := by
      rw [List.size_toArray, ← rv.length]
      exact (List.getElem?_eq_some_iff.mp hx).1
    refine wpAny_pyNext_enum_itemD D he ⟨hit, p⟩ hlt hne (by simp [hne, Ne.symm hae]) fun y h' tk hy ho hit' hT hsz hk => ?_
    have hyu : y = u := by
      have : its.toArray[i]? = some y := hy
      rw [List.getElem?_toArray, hu] at this
      exact (Option.some.inj this).symm
    subst hyu
    refine ⟨_, rfl, wpAny_letOwnedTupleGo_enum (s := { s with heap := h', toks := tk + 1 }) ho fun h2 he2 sb => ?_⟩
    have hT2 : h2.get? s.heap.objs.size = some { cls := .type "tuple", data := .seq #[.int i tk, y] } :=
      (sb.2 _ (Nat.ne_of_gt hel)).trans hT
    have new : ObjOk X.prog X.w (upd H s.heap.objs.size (.tup [.int (i : Nat), x])) h2 s.heap.objs.size (.tup [.int (i : Nat), x]) :=
      ⟨by show 2 ≤ sizeLine; decide, [.int i tk, y], .cons ⟨_, rfl⟩ (.cons ru .nil), ⟨_, hT2, rfl, _, rfl⟩⟩
    have I1 : L2.Inv X pins σ (upd H s.heap.objs.size (.tup [.int (i : Nat), x])) { s with heap := h2, toks := tk + 1 } :=
      I.turnedNew (ch := [e, it]) (fun b ob hb q => (sb.2 b (fun z => hb (by simp [z]))).trans
        (hk b ob (fun z => hb (by simp [z])) (fun z => hb (by simp [z])) q)) hf (Nat.le_refl _) new
    refine ⟨.ref s.heap.objs.size, _, I1, rfl, ⟨_, x, rfl, I.hok.fresh (Nat.le_refl _), rfl, fun ys hy => by rw [I.tuple_inj hy hq]; exact hx⟩,
      ⟨⟨y, ?_⟩, hit'.1.at fun o q => (sb.2 it (Ne.symm hne)).trans q, hne⟩, fun b hb => ?_⟩
    · have e1 : ((i + 1 : Nat) : Int) = (i : Int) + 1 := by omega
      rw [e1]; exact he2
    · have hb' : b < s.heap.objs.size := by
        have e' : b = e ∨ b = it := by simpa using hb
        rcases e' with z | z
        · subst z; exact hel
        · subst z; exact hil
      rw [upd_ne (Nat.ne_of_lt hb')]
      exact (hf b hb).1
  done := by
    intro X hP hw hK hc i pins s σ H E I hf st hg
    subst hP hw hK
    obtain ⟨⟨old, he⟩, hit, hne⟩ := st
    obtain ⟨xs, hq, hx⟩ := hg
    obtain ⟨its, rv, p, hz⟩ := I.tuple hq
    obtain ⟨f0, f1, f2, f3, f4, f5⟩ := hf it (by simp)
    have hai : a ≠ it := fun z => by
      obtain ⟨o1, g1, c1, _⟩ := hit
      obtain ⟨o2, g2, c2, _⟩ := p
      rw [z, g1] at g2
      cases g2
      rw [c1] at c2
      exact absurd c2 (by decide)
    have hh : X.A.in1.handled = none := by simp [I.ok.hd hc]
    have D := Draws.tuple (prog := X.prog) (w := X.w) hh it a hai its.toArray
    have hn : its.toArray.size = i := by rw [List.size_toArray, ← rv.length]; exact hx
    refine wpAny_pyNext_enum_endD D he ⟨by rw [hn]; exact hit, p⟩ fun h' eb => ⟨rfl, I.turned (t' := s.toks) (fun b o hb q => eb b o hb q) f0 f1 f3 f4 f5⟩
  self := fun A i s Q E st h => let ⟨⟨_, he⟩, _⟩ := st; wpAny_pyIter_enum he h

/-- enumerate(t) made -/
theorem meets_enumT {v : Value} {o : Obj} {H : Heap → Prop} (B : Begins v o H) :
    Meets (Builtin.«enumerate.__new__» ⟨[.type "enumerate", v], []⟩) (fun _ R s => H s.heap ∧
      R (.ok (.ret (.ref (s.heap.push o).objs.size)))
        { s with heap := (s.heap.push o).push { cls := .type "enumerate", data := .fields #[.none, .bool false, .ref s.heap.objs.size, rawInt 0, .none, .none] } }) :=
  .of_wp fun prog w A R s h => by
    obtain ⟨hp, g, d, tk, os⟩ := s; obtain ⟨h1, h⟩ := h
    have hsub := sub_enumerate
    have q1 : ∀ {A' : Around} {E : Value → Shared → Prop} {Q : Value → Shared → Prop}, Q (.ref hp.objs.size) ⟨hp.push o, g, d, tk, os⟩ →
        wpAny (model prog w) A' (pyIter v) Q E ⟨hp, g, d, tk, os⟩ := fun q => B.iter prog w _ _ ⟨hp, g, d, tk, os⟩ _ h1 q
    wp_walk using q1
    refine wpAny_stack_any fun st => wpAny_pure ?_
    split
    · rename_i c _ _ _ _ _
      cases (c == Value.type "enumerate")
      · wp_walk using q1
        exact ⟨_, rfl, h⟩
      · wp_walk using q1
        exact ⟨_, rfl, h⟩
    · wp_walk using q1
      exact ⟨_, rfl, h⟩
def iEnumT (K : PySem.W.Frag) (ta : TA) : TI := fun σ H R => ta σ H fun vs H1 => ∃ a xs, vs = [.ref a] ∧ SqT K H1 a xs ∧ R (IteT K a) H1
theorem pi_enumT {X : Cx} {e : Expr} {ta : TA} {p pos tpos : Pos} {elts : List Expr} {kk : Nat} (hg : Gl X "enumerate") (hm : X.mg "enumerate" = none)
    (ha : PA X [e] ta) (hs : starEach [e] X.env = [(false, eval e X.env)] := by rfl) :
    PI X (.Tuple elts kk tpos) (.Call (.Name "enumerate" p) [e] [] pos) (iEnumT X.K ta) := by
  refine ⟨fun pins s σ H R I h => ?_⟩
  refine Call_ (ld_blt I hg hm boot_enumerate (PyProof.Rows.callWith_type1 (thn (ha.run pos pins s σ H _ I h) fun us s1 ⟨vs, H1, I1, r1, q1⟩ => ?_) hs rfl))
  obtain ⟨a, xs, ex, hq, q⟩ := q1
  subst ex
  cases r1 with
  | cons r rr =>
    cases rr
    cases r
    obtain ⟨its, rv, p', hz⟩ := I1.tuple hq
    refine callType_new F.called_enumerate (by decide) (F.typeCall_enumerate_1 _) (F.newCall_enumerate_1 _) (fun obj => F.args_object_init_2 obj _)
      F.entry_enumerate_new (meets_enumT (begins_tuple a its.toArray)) ⟨p', ?_⟩
    have z1 : (s1.heap.push { cls := .type "tuple_iterator", data := .fields #[.ref a, .int 0 0] }).objs.size = s1.heap.objs.size + 1 := Heap.size_push ..
    show _ ∧ _
    rw [z1]
    have he : IsEnum ((s1.heap.push { cls := .type "tuple_iterator", data := .fields #[.ref a, .int 0 0] }).push
        { cls := .type "enumerate", data := .fields #[.none, .bool false, .ref s1.heap.objs.size, rawInt 0, .none, .none] })
        (s1.heap.objs.size + 1) s1.heap.objs.size 0 .none := by
      have := Heap.get?_push_size (s1.heap.push { cls := .type "tuple_iterator", data := .fields #[.ref a, .int 0 0] })
        (o := { cls := .type "enumerate", data := .fields #[.none, .bool false, .ref s1.heap.objs.size, rawInt 0, .none, .none] }) rfl
      rw [z1] at this; exact this
    refine ⟨⟨_, he, rfl⟩, ?_⟩
    refine wpAny_pyIter_enum he ?_
    have I2 : L2.Inv X pins σ H1 ⟨(s1.heap.push { cls := .type "tuple_iterator", data := .fields #[.ref a, .int 0 0] }).push { cls := .type "enumerate", data := .fields #[.none, .bool false, .ref s1.heap.objs.size, rawInt 0, .none, .none] }, s1.gens, s1.drawn, s1.toks, s1.os⟩ :=
      I1.kept (t' := s1.toks) fun b o x => Heap.get?_push_of_some _ (Heap.get?_push_of_some _ x)
    refine ⟨s1.heap.objs.size + 1, [s1.heap.objs.size + 1, s1.heap.objs.size], _, _, H1, rfl, I2, turn_enumT a (s1.heap.objs.size + 1) s1.heap.objs.size,
      ⟨⟨.none, he⟩, ⟨_, Heap.get?_push_of_some _ (Heap.get?_push_size _ rfl), rfl, rfl⟩, Nat.succ_ne_self _⟩, fun b hb => ?_, q⟩
    have e' : b = s1.heap.objs.size + 1 ∨ b = s1.heap.objs.size := by simpa using hb
    have hle : s1.heap.objs.size ≤ b := by
      rcases e' with z | z
      · rw [z]; exact Nat.le_succ _
      · rw [z]; exact Nat.le_refl _
    exact I1.fpOk hle (I1.hok.fresh hle)
end Td
/-! Data: what stays, data in the heap, names, rows. -/
namespace Td
open PySem PySem.Spec PyProof.Rows L2

/-! ### what stays while the object at st changes -/
def Keep (st : Addr) (H H' : Hp) : Prop := ∀ b o, b ≠ st → H b = some o → H' b = some o
theorem Keep.refl (st : Addr) (H : Hp) : Keep st H H := fun _ _ _ h => h
theorem Keep.trans {st : Addr} {H H1 H2 : Hp} (a : Keep st H H1) (b : Keep st H1 H2) : Keep st H H2 := fun c o n h => b c o n (a c o n h)
theorem Keep.upd {st : Addr} {H : Hp} {o : HO} : Keep st H (upd H st o) := fun b u n h => by rw [upd_ne n]; exact h
theorem Keep.new {st p : Addr} {H : Hp} {o : HO} (h : H p = none) : Keep st H (L2.upd H p o) := fun b u n e => by
  rw [upd_ne (ne_of_none e h)]; exact e
theorem Keep.free {st p : Addr} {H H' : Hp} (k : Keep st H H') (n : p ≠ st) (h : H' p = none) : H p = none := by
  cases e : H p with
  | none => rfl
  | some o => rw [k p o n e] at h; cases h
/-- an object that was not there at first is changed -/
theorem Keep.own {st p : Addr} {H H' : Hp} {o : HO} (k : Keep st H H') (h : H p = none) : Keep st H (L2.upd H' p o) := fun b u nb e => by
  rw [upd_ne (ne_of_none e h)]; exact k b u nb e
theorem Same.new {H : Hp} {p : Addr} (h : H p = none) (o : HO) : Same H (upd H p o) := fun b u e => by
  rw [upd_ne (ne_of_none e h)]; exact e
theorem Same.keep {H H' : Hp} (h : Same H H') (st : Addr) : Keep st H H' := fun b o _ e => h b o e

/-! ### immutable and mutable data, away from st -/
section
variable {K : PySem.W.Frag} {H H' : Hp} {a : Addr} {xs : List V}
theorem SqT.same (s : Same H H') (h : SqT K H a xs) : SqT K H' a xs := by
  rcases h with (h | ⟨o, h⟩) | h
  · exact .inl (.inl (s _ _ h))
  · exact .inl (.inr ⟨o, s _ _ h⟩)
  · exact .inr h
theorem SqL.same (s : Same H H') (h : SqL K H a xs) : SqL K H' a xs := s.seq h
theorem SqT.keep {st : Addr} (s : Keep st H H') (n : a ≠ st) (h : SqT K H a xs) : SqT K H' a xs := by
  rcases h with (h | ⟨o, h⟩) | h
  · exact .inl (.inl (s _ _ n h))
  · exact .inl (.inr ⟨o, s _ _ n h⟩)
  · exact .inr h
theorem SqL.keep {st : Addr} (s : Keep st H H') (n : a ≠ st) (h : SqL K H a xs) : SqL K H' a xs := by
  rcases h with (h | ⟨o, h⟩) | h
  · exact .inl (.inl (s _ _ n h))
  · exact .inl (.inr ⟨o, s _ _ n h⟩)
  · exact .inr h
end
mutual
/-- data at a value, none of its objects at st -/
inductive Dn (K : PySem.W.Frag) (st : Addr) (H : Hp) : V → PyData → Prop
  | non : Dn K st H .non .none
  | bl (b : Bool) : Dn K st H (.bl b) (.bool b)
  | int (i : Int) : Dn K st H (.int i) (.int i)
  | str (x : Str) : Dn K st H (.str x) (.str x)
  | lst {a : Addr} {xs : List V} {ds : List PyData} : a ≠ st → SqL K H a xs → DnAll K st H xs ds → Dn K st H (.ref a) (.list ds)
  | tup {a : Addr} {xs : List V} {ds : List PyData} : a ≠ st → SqT K H a xs → DnAll K st H xs ds → Dn K st H (.ref a) (.tuple ds)
inductive DnAll (K : PySem.W.Frag) (st : Addr) (H : Hp) : List V → List PyData → Prop
  | nil : DnAll K st H [] []
  | cons {v : V} {vs : List V} {d : PyData} {ds : List PyData} : Dn K st H v d → DnAll K st H vs ds → DnAll K st H (v :: vs) (d :: ds)
end
section
variable {K : PySem.W.Frag} {H H' : Hp} {st : Addr}
mutual
theorem Dn.keep (s : Keep st H H') : ∀ {v : V} {d : PyData}, Dn K st H v d → Dn K st H' v d
  | _, _, .non => .non
  | _, _, .bl b => .bl b
  | _, _, .int b => .int b
  | _, _, .str b => .str b
  | _, _, .lst n q r => .lst n (SqL.keep s n q) (DnAll.keep s r)
  | _, _, .tup n q r => .tup n (SqT.keep s n q) (DnAll.keep s r)
theorem DnAll.keep (s : Keep st H H') : ∀ {v : List V} {d : List PyData}, DnAll K st H v d → DnAll K st H' v d
  | _, _, .nil => .nil
  | _, _, .cons a b => .cons (Dn.keep s a) (DnAll.keep s b)
end
mutual
theorem Dn.dp : ∀ {v : V} {d : PyData}, Dn K st H v d → Dp K H v d
  | _, _, .non => .non
  | _, _, .bl b => .bl b
  | _, _, .int b => .int b
  | _, _, .str b => .str b
  | _, _, .lst n q r => .lst q (DnAll.dp r)
  | _, _, .tup n q r => .tup q (DnAll.dp r)
theorem DnAll.dp : ∀ {v : List V} {d : List PyData}, DnAll K st H v d → DpAll K H v d
  | _, _, .nil => .nil
  | _, _, .cons a b => .cons (Dn.dp a) (DnAll.dp b)
end
mutual
theorem Dp.same (s : Same H H') : ∀ {v : V} {d : PyData}, Dp K H v d → Dp K H' v d
  | _, _, .non => .non
  | _, _, .bl b => .bl b
  | _, _, .int b => .int b
  | _, _, .str b => .str b
  | _, _, .lst q r => .lst (SqL.same s q) (DpAll.same s r)
  | _, _, .tup q r => .tup (SqT.same s q) (DpAll.same s r)
theorem DpAll.same (s : Same H H') : ∀ {v : List V} {d : List PyData}, DpAll K H v d → DpAll K H' v d
  | _, _, .nil => .nil
  | _, _, .cons a b => .cons (Dp.same s a) (DpAll.same s b)
end
theorem DpAll.length : ∀ {vs : List V} {ds : List PyData}, DpAll K H vs ds → vs.length = ds.length
  | _, _, .nil => rfl
  | _, _, .cons _ r => by rw [List.length_cons, List.length_cons, DpAll.length r]
theorem DpAll.get : ∀ {vs : List V} {ds : List PyData} {i : Nat} {v : V}, DpAll K H vs ds → vs[i]? = some v → ∃ d, ds[i]? = some d ∧ Dp K H v d
  | _, _, _, _, .nil, h => by simp at h
  | _, _, 0, _, .cons a _, h => by simp at h; subst h; exact ⟨_, rfl, a⟩
  | _, _, i + 1, v, .cons _ r, h => by
    obtain ⟨d, h1, h2⟩ := DpAll.get (i := i) (v := v) r (by simpa using h)
    exact ⟨d, by simpa using h1, h2⟩
theorem DpAll.append : ∀ {vs ws : List V} {ds es : List PyData}, DpAll K H vs ds → DpAll K H ws es → DpAll K H (vs ++ ws) (ds ++ es)
  | _, _, _, _, .nil, h => h
  | _, _, _, _, .cons a r, h => .cons a (DpAll.append r h)
theorem DpAll.strs (zs : List Str) : DpAll K H (zs.map V.str) (zs.map PyData.str) := by
  induction zs with
  | nil => exact .nil
  | cons z r ih => exact .cons (.str z) ih
theorem DnAll.strs (zs : List Str) : DnAll K st H (zs.map V.str) (zs.map PyData.str) := by
  induction zs with
  | nil => exact .nil
  | cons z r ih => exact .cons (.str z) ih
theorem DnAll.append : ∀ {vs ws : List V} {ds es : List PyData}, DnAll K st H vs ds → DnAll K st H ws es → DnAll K st H (vs ++ ws) (ds ++ es)
  | _, _, _, _, .nil, h => h
  | _, _, _, _, .cons a r, h => .cons a (DnAll.append r h)
theorem DnAll.length : ∀ {vs : List V} {ds : List PyData}, DnAll K st H vs ds → vs.length = ds.length
  | _, _, .nil => rfl
  | _, _, .cons _ r => by rw [List.length_cons, List.length_cons, DnAll.length r]
theorem DnAll.get : ∀ {vs : List V} {ds : List PyData} {i : Nat} {v : V}, DnAll K st H vs ds → vs[i]? = some v → ∃ d, ds[i]? = some d ∧ Dn K st H v d
  | _, _, _, _, .nil, h => by simp at h
  | _, _, 0, _, .cons a _, h => by simp at h; subst h; exact ⟨_, rfl, a⟩
  | _, _, i + 1, v, .cons _ r, h => by
    obtain ⟨d, h1, h2⟩ := DnAll.get (i := i) (v := v) r (by simpa using h)
    exact ⟨d, by simpa using h1, h2⟩
/-- a tuple's value -/
theorem Dp.tup_inv {v : V} {ds : List PyData} (h : Dp K H v (.tuple ds)) : ∃ a xs, v = .ref a ∧ SqT K H a xs ∧ DpAll K H xs ds := by
  cases h with
  | tup q r => exact ⟨_, _, rfl, q, r⟩
theorem Dn.tup_inv {v : V} {ds : List PyData} (h : Dn K st H v (.tuple ds)) : ∃ a xs, v = .ref a ∧ a ≠ st ∧ SqT K H a xs ∧ DnAll K st H xs ds := by
  cases h with
  | tup n q r => exact ⟨_, _, rfl, n, q, r⟩
theorem Dp.str_inv {v : V} {z : Str} (h : Dp K H v (.str z)) : v = .str z := by cases h; rfl
theorem Dn.str_inv {v : V} {z : Str} (h : Dn K st H v (.str z)) : v = .str z := by cases h; rfl
theorem DpAll.strs_inv : ∀ {vs : List V} {zs : List Str}, DpAll K H vs (zs.map PyData.str) → vs = zs.map V.str
  | vs, [], h => by cases h; rfl
  | vs, z :: zs, h => by
    cases h with
    | cons a r => cases a; rw [DpAll.strs_inv r]; rfl
theorem DnAll.strs_inv : ∀ {vs : List V} {zs : List Str}, DnAll K st H vs (zs.map PyData.str) → vs = zs.map V.str
  | vs, [], h => by cases h; rfl
  | vs, z :: zs, h => by
    cases h with
    | cons a r => cases a; rw [DnAll.strs_inv r]; rfl
theorem DnAll.of_dp_new {p : Addr} {o : HO} {vs : List V} {ds : List PyData} (h : DnAll K st H vs ds) (hp : H p = none) : DnAll K st (upd H p o) vs ds := DnAll.keep (Keep.new hp) h
theorem Dn.new {p : Addr} {o : HO} {v : V} {d : PyData} (h : Dn K st H v d) (hp : H p = none) : Dn K st (upd H p o) v d := Dn.keep (Keep.new hp) h
end

/-! ### names -/
def lowc (c : Nat) : Bool := decide (97 ≤ c) && decide (c ≤ 122)
def isNm (z : Str) : Bool := decide (1 ≤ z.length) && decide (z.length ≤ 8) && z.cps.toList.all lowc

/-! ### rows -/
inductive Row where
  | rd (pk : Bool) (c s : Str)
  | put (s w : Str)
  | give (s : Str)
  | say (s : Str)
  | wr (c s : Str)
  | ite (s w : Str) (y n : List Row)
mutual
def rowD : Row → PyData
  | .rd pk c s => .tuple [.str (if pk then "peek" else "read"), .str c, .str s]
  | .put s w => .tuple [.str "put", .str s, .str w]
  | .give s => .tuple [.str "give", .str s]
  | .say s => .tuple [.str "say", .str s]
  | .wr c s => .tuple [.str "write", .str c, .str s]
  | .ite s w y n => .tuple [.str "if", .str s, .str w, .tuple (rowsD y), .tuple (rowsD n)]
def rowsD : List Row → List PyData
  | [] => []
  | r :: rs => rowD r :: rowsD rs
end
theorem rowsD_length : ∀ rs, (rowsD rs).length = rs.length
  | [] => by unfold rowsD; rfl
  | r :: rs => by unfold rowsD; rw [List.length_cons, List.length_cons, rowsD_length rs]
theorem rowsD_append : ∀ rs ts, rowsD (rs ++ ts) = rowsD rs ++ rowsD ts
  | [], ts => by simp [rowsD]
  | r :: rs, ts => by simp only [List.cons_append, rowsD, rowsD_append rs ts]
theorem rowsD_get : ∀ {rs : List Row} {i : Nat} {r : Row}, rs[i]? = some r → (rowsD rs)[i]? = some (rowD r)
  | [], i, r, h => by simp at h
  | x :: rs, 0, r, h => by simp at h; subst h; unfold rowsD; rfl
  | x :: rs, i + 1, r, h => by
    unfold rowsD
    rw [List.getElem?_cons_succ]
    exact rowsD_get (by simpa using h)
mutual
def cnt : Row → Nat
  | .ite _ _ y n => 1 + cnts y + cnts n
  | .rd .. => 1
  | .put .. => 1
  | .give .. => 1
  | .say .. => 1
  | .wr .. => 1
def cnts : List Row → Nat
  | [] => 0
  | r :: rs => cnt r + cnts rs
end
theorem cnts_append : ∀ rs ts, cnts (rs ++ ts) = cnts rs + cnts ts
  | [], ts => by simp [cnts]
  | r :: rs, ts => by
    simp only [List.cons_append, cnts, cnts_append rs ts]; omega
/-- what the rows of a body may be and may name -/
structure Sc where
  eff : Bool
  words : List Str
  sources : List Str
  readable : List Str
mutual
def okR (S : Sc) (dep : Nat) : Row → Prop
  | .rd pk c s => (pk = true → S.eff = true) ∧ c ∈ S.readable ∧ isNm s = true
  | .put s w => isNm s = true ∧ w ∈ S.words
  | .give s => S.eff = false ∧ isNm s = true
  | .say s => S.eff = true ∧ isNm s = true
  | .wr c s => S.eff = true ∧ c ∈ S.sources ∧ isNm s = true
  | .ite s w y n => dep ≤ 3 ∧ isNm s = true ∧ w ∈ S.words ∧ okRs S (dep + 1) y ∧ okRs S (dep + 1) n
def okRs (S : Sc) (dep : Nat) : List Row → Prop
  | [] => True
  | r :: rs => okR S dep r ∧ okRs S dep rs
end
theorem okRs_append {S : Sc} {dep : Nat} : ∀ {rs ts}, okRs S dep rs → okRs S dep ts → okRs S dep (rs ++ ts)
  | [], ts, _, h => h
  | r :: rs, ts, h, h2 => by
    unfold okRs at h
    show okRs S dep (r :: (rs ++ ts))
    unfold okRs
    exact ⟨h.1, okRs_append h.2 h2⟩
theorem okRs_get {S : Sc} {dep : Nat} : ∀ {rs : List Row} {i : Nat} {r : Row}, okRs S dep rs → rs[i]? = some r → okR S dep r
  | [], i, r, _, h => by simp at h
  | x :: rs, 0, r, ok, h => by
    unfold okRs at ok
    simp at h; subst h; exact ok.1
  | x :: rs, i + 1, r, ok, h => by
    unfold okRs at ok
    exact okRs_get ok.2 (by simpa using h)
theorem okRs_one {S : Sc} {dep : Nat} {r : Row} (h : okR S dep r) : okRs S dep [r] := by
  unfold okRs
  exact ⟨h, by unfold okRs; trivial⟩
end Td
namespace Td
open PySem PySem.Spec PyProof.Rows L2
/-- an if whose test is known -/
theorem if_true_of {c : Bool} {A B : Prop} (hc : c = true) (h : A) : if c = true then A else B := by
  rw [if_pos hc]; exact h
theorem if_false_of {c : Bool} {A B : Prop} (hc : c = false) (h : B) : if c = true then A else B := by
  rw [hc, if_neg Bool.false_ne_true]; exact h
def rowTag : Row → Str
  | .rd pk _ _ => if pk then "peek" else "read"
  | .put .. => "put"
  | .give .. => "give"
  | .say .. => "say"
  | .wr .. => "write"
  | .ite .. => "if"
def isIte : Row → Bool
  | .ite .. => true
  | _ => false
theorem tag_if (r : Row) : decide (V.str (rowTag r) = V.str "if") = isIte r := by
  cases r with
  | rd pk c s =>
    cases pk
    · show decide (V.str "read" = V.str "if") = false; decide +kernel
    · show decide (V.str "peek" = V.str "if") = false; decide +kernel
  | put => show decide (V.str "put" = V.str "if") = false; decide +kernel
  | give => show decide (V.str "give" = V.str "if") = false; decide +kernel
  | say => show decide (V.str "say" = V.str "if") = false; decide +kernel
  | wr => show decide (V.str "write" = V.str "if") = false; decide +kernel
  | ite => show decide (V.str "if" = V.str "if") = true; decide +kernel
section
variable {K : PySem.W.Frag} {H H' : Hp} {st : Addr} {v : V}
/-- a row's tuple -/
theorem row_at {r : Row} (h : Dp K H v (rowD r)) : ∃ a xs, v = .ref a ∧ SqT K H a xs ∧ xs[0]? = some (.str (rowTag r)) := by
  cases r with
  | rd pk c s =>
    obtain ⟨a, xs, rfl, hS, hD⟩ := Dp.tup_inv (by unfold rowD at h; exact h)
    cases hD with | cons h1 _ => cases h1; exact ⟨a, _, rfl, hS, rfl⟩
  | put s w =>
    obtain ⟨a, xs, rfl, hS, hD⟩ := Dp.tup_inv (by unfold rowD at h; exact h)
    cases hD with | cons h1 _ => cases h1; exact ⟨a, _, rfl, hS, rfl⟩
  | give s =>
    obtain ⟨a, xs, rfl, hS, hD⟩ := Dp.tup_inv (by unfold rowD at h; exact h)
    cases hD with | cons h1 _ => cases h1; exact ⟨a, _, rfl, hS, rfl⟩
  | say s =>
    obtain ⟨a, xs, rfl, hS, hD⟩ := Dp.tup_inv (by unfold rowD at h; exact h)
    cases hD with | cons h1 _ => cases h1; exact ⟨a, _, rfl, hS, rfl⟩
  | wr c s =>
    obtain ⟨a, xs, rfl, hS, hD⟩ := Dp.tup_inv (by unfold rowD at h; exact h)
    cases hD with | cons h1 _ => cases h1; exact ⟨a, _, rfl, hS, rfl⟩
  | ite s w y n =>
    obtain ⟨a, xs, rfl, hS, hD⟩ := Dp.tup_inv (by unfold rowD at h; exact h)
    cases hD with | cons h1 _ => cases h1; exact ⟨a, _, rfl, hS, rfl⟩
theorem DpAll.inv2 {xs : List V} {d1 d2 : PyData} (h : DpAll K H xs [d1, d2]) : ∃ v1 v2, xs = [v1, v2] ∧ Dp K H v1 d1 ∧ Dp K H v2 d2 := by
  cases h with | cons a r => cases r with | cons b r => cases r; exact ⟨_, _, rfl, a, b⟩
theorem DpAll.inv3 {xs : List V} {d1 d2 d3 : PyData} (h : DpAll K H xs [d1, d2, d3]) : ∃ v1 v2 v3, xs = [v1, v2, v3] ∧ Dp K H v1 d1 ∧ Dp K H v2 d2 ∧ Dp K H v3 d3 := by
  cases h with | cons a r => obtain ⟨v2, v3, rfl, h2, h3⟩ := DpAll.inv2 r; exact ⟨_, _, _, rfl, a, h2, h3⟩
theorem DpAll.inv5 {xs : List V} {d1 d2 d3 d4 d5 : PyData} (h : DpAll K H xs [d1, d2, d3, d4, d5]) :
    ∃ v1 v2 v3 v4 v5, xs = [v1, v2, v3, v4, v5] ∧ Dp K H v1 d1 ∧ Dp K H v2 d2 ∧ Dp K H v3 d3 ∧ Dp K H v4 d4 ∧ Dp K H v5 d5 := by
  cases h with | cons a r => cases r with | cons b r => obtain ⟨v3, v4, v5, rfl, h3, h4, h5⟩ := DpAll.inv3 r; exact ⟨_, _, _, _, _, rfl, a, b, h3, h4, h5⟩
theorem rd_at {pk : Bool} {c s : Str} (h : Dp K H v (rowD (.rd pk c s))) : ∃ a, v = .ref a ∧ SqT K H a [.str (if pk then "peek" else "read"), .str c, .str s] := by
  obtain ⟨a, xs, rfl, hS, hD⟩ := Dp.tup_inv (by unfold rowD at h; exact h)
  obtain ⟨v1, v2, v3, rfl, h1, h2, h3⟩ := DpAll.inv3 hD
  cases h1; cases h2; cases h3
  exact ⟨a, rfl, hS⟩
theorem put_at {s c : Str} (h : Dp K H v (rowD (.put s c))) : ∃ a, v = .ref a ∧ SqT K H a [.str "put", .str s, .str c] := by
  obtain ⟨a, xs, rfl, hS, hD⟩ := Dp.tup_inv (by unfold rowD at h; exact h)
  obtain ⟨v1, v2, v3, rfl, h1, h2, h3⟩ := DpAll.inv3 hD
  cases h1; cases h2; cases h3
  exact ⟨a, rfl, hS⟩
theorem wr_at {s c : Str} (h : Dp K H v (rowD (.wr c s))) : ∃ a, v = .ref a ∧ SqT K H a [.str "write", .str c, .str s] := by
  obtain ⟨a, xs, rfl, hS, hD⟩ := Dp.tup_inv (by unfold rowD at h; exact h)
  obtain ⟨v1, v2, v3, rfl, h1, h2, h3⟩ := DpAll.inv3 hD
  cases h1; cases h2; cases h3
  exact ⟨a, rfl, hS⟩
theorem give_at {s : Str} (h : Dp K H v (rowD (.give s))) : ∃ a, v = .ref a ∧ SqT K H a [.str "give", .str s] := by
  obtain ⟨a, xs, rfl, hS, hD⟩ := Dp.tup_inv (by unfold rowD at h; exact h)
  obtain ⟨v1, v2, rfl, h1, h2⟩ := DpAll.inv2 hD
  cases h1; cases h2
  exact ⟨a, rfl, hS⟩
theorem say_at {s : Str} (h : Dp K H v (rowD (.say s))) : ∃ a, v = .ref a ∧ SqT K H a [.str "say", .str s] := by
  obtain ⟨a, xs, rfl, hS, hD⟩ := Dp.tup_inv (by unfold rowD at h; exact h)
  obtain ⟨v1, v2, rfl, h1, h2⟩ := DpAll.inv2 hD
  cases h1; cases h2
  exact ⟨a, rfl, hS⟩
theorem ite_at {s c : Str} {y n : List Row} (h : Dp K H v (rowD (.ite s c y n))) : ∃ a vy vn, v = .ref a ∧ SqT K H a [.str "if", .str s, .str c, vy, vn] ∧
    Dp K H vy (.tuple (rowsD y)) ∧ Dp K H vn (.tuple (rowsD n)) := by
  obtain ⟨a, xs, rfl, hS, hD⟩ := Dp.tup_inv (by unfold rowD at h; exact h)
  obtain ⟨v1, v2, v3, v4, v5, rfl, h1, h2, h3, h4, h5⟩ := DpAll.inv5 hD
  cases h1; cases h2; cases h3
  exact ⟨a, _, _, rfl, hS, h4, h5⟩
/-- the rows' items -/
theorem rows_at {rs : List Row} (h : Dp K H v (.tuple (rowsD rs))) : ∃ (a : Addr) (xs : List V), v = .ref a ∧ SqT K H a xs ∧ xs.length = rs.length ∧
    ∀ (i : Nat) (x : V), xs[i]? = some x → ∃ r, rs[i]? = some r ∧ Dp K H x (rowD r) := by
  obtain ⟨a, xs, rfl, hS, hD⟩ := Dp.tup_inv h
  have hl := DpAll.length hD
  rw [rowsD_length] at hl
  refine ⟨a, xs, rfl, hS, hl, fun i x hx => ?_⟩
  have hi : i < rs.length := by rw [← hl]; exact (List.getElem?_eq_some_iff.mp hx).1
  obtain ⟨d, h1, h2⟩ := DpAll.get hD hx
  have e := rowsD_get (List.getElem?_eq_getElem hi)
  rw [h1] at e
  exact ⟨_, List.getElem?_eq_getElem hi, by rw [← Option.some.inj e]; exact h2⟩
end
theorem take_more {α : Type} {l : List α} {i : Nat} {x : α} (h : l[i]? = some x) : l.take (i + 1) = l.take i ++ [x] := by
  have hi := (List.getElem?_eq_some_iff.mp h).1
  rw [List.take_succ_eq_append_getElem hi, (List.getElem?_eq_some_iff.mp h).2]
theorem cnts_take {rs : List Row} {i : Nat} {r : Row} (h : rs[i]? = some r) : cnts (rs.take (i + 1)) = cnts (rs.take i) + cnt r := by
  rw [take_more h, cnts_append]
  simp [cnts]
theorem cnt_pos : ∀ r, 1 ≤ cnt r
  | .ite _ _ y n => by unfold cnt; omega
  | .rd .. => by unfold cnt; exact Nat.le_refl _
  | .put .. => by unfold cnt; exact Nat.le_refl _
  | .give .. => by unfold cnt; exact Nat.le_refl _
  | .say .. => by unfold cnt; exact Nat.le_refl _
  | .wr .. => by unfold cnt; exact Nat.le_refl _
theorem cnt_flat : ∀ {r}, isIte r = false → cnt r = 1
  | .ite .., h => by cases h
  | .rd .., _ => rfl
  | .put .., _ => rfl
  | .give .., _ => rfl
  | .say .., _ => rfl
  | .wr .., _ => rfl
end Td
/-! Data of tuples, texts, numbers alone. -/
namespace Td
open PySem PySem.Spec PyProof.Rows L2
def TK (H H' : Hp) : Prop := (∀ b xs, H b = some (.tup xs) → H' b = some (.tup xs)) ∧ ∀ b o u, H b = some (.frz o u) → H' b = some (.frz o u)
theorem TK.refl (H : Hp) : TK H H := ⟨fun _ _ h => h, fun _ _ _ h => h⟩
theorem TK.trans {H H1 H2 : Hp} (a : TK H H1) (b : TK H1 H2) : TK H H2 := ⟨fun c xs h => b.1 c xs (a.1 c xs h), fun c o u h => b.2 c o u (a.2 c o u h)⟩
theorem TK.of_same {H H' : Hp} (s : Same H H') : TK H H' := ⟨fun c xs h => s c _ h, fun c o u h => s c _ h⟩
/-- what may change: no tuple, nothing locked -/
def Chg : Option HO → Prop
  | some (.tup _) => False
  | some (.frz _ _) => False
  | _ => True
theorem TK.of_keep {st : Addr} {H H' : Hp} (k : Keep st H H') (h : Chg (H st)) : TK H H' :=
  ⟨fun b xs e => k b _ (fun z => by rw [z] at e; rw [e] at h; exact h) e, fun b o u e => k b _ (fun z => by rw [z] at e; rw [e] at h; exact h) e⟩
theorem TK.upd {p : Addr} {H : Hp} {o : HO} (h : Chg (H p)) : TK H (L2.upd H p o) := TK.of_keep (st := p) Keep.upd h
mutual
inductive Tn (K : PySem.W.Frag) (H : Hp) : V → PyData → Prop
  | non : Tn K H .non .none
  | bl (b : Bool) : Tn K H (.bl b) (.bool b)
  | int (i : Int) : Tn K H (.int i) (.int i)
  | str (x : Str) : Tn K H (.str x) (.str x)
  | tup {a : Addr} {xs : List V} {ds : List PyData} : SqT K H a xs → TnAll K H xs ds → Tn K H (.ref a) (.tuple ds)
inductive TnAll (K : PySem.W.Frag) (H : Hp) : List V → List PyData → Prop
  | nil : TnAll K H [] []
  | cons {v : V} {vs : List V} {d : PyData} {ds : List PyData} : Tn K H v d → TnAll K H vs ds → TnAll K H (v :: vs) (d :: ds)
end
section
variable {K : PySem.W.Frag} {H H' : Hp} {st : Addr}
theorem SqT.tk {a : Addr} {xs : List V} (k : TK H H') (h : SqT K H a xs) : SqT K H' a xs := by
  rcases h with (h | ⟨o, h⟩) | h
  · exact .inl (.inl (k.1 _ _ h))
  · exact .inl (.inr ⟨o, k.2 _ _ _ h⟩)
  · exact .inr h
mutual
theorem Tn.keep (s : TK H H') : ∀ {v : V} {d : PyData}, Tn K H v d → Tn K H' v d
  | _, _, .non => .non
  | _, _, .bl b => .bl b
  | _, _, .int b => .int b
  | _, _, .str b => .str b
  | _, _, .tup q r => .tup (SqT.tk s q) (TnAll.keep s r)
theorem TnAll.keep (s : TK H H') : ∀ {v : List V} {d : List PyData}, TnAll K H v d → TnAll K H' v d
  | _, _, .nil => .nil
  | _, _, .cons a b => .cons (Tn.keep s a) (TnAll.keep s b)
end
mutual
theorem Tn.dp : ∀ {v : V} {d : PyData}, Tn K H v d → Dp K H v d
  | _, _, .non => .non
  | _, _, .bl b => .bl b
  | _, _, .int b => .int b
  | _, _, .str b => .str b
  | _, _, .tup q r => .tup q (TnAll.dp r)
theorem TnAll.dp : ∀ {v : List V} {d : List PyData}, TnAll K H v d → DpAll K H v d
  | _, _, .nil => .nil
  | _, _, .cons a b => .cons (Tn.dp a) (TnAll.dp b)
end
theorem TnAll.strs (zs : List Str) : TnAll K H (zs.map V.str) (zs.map PyData.str) := by
  induction zs with
  | nil => exact .nil
  | cons z r ih => exact .cons (.str z) ih
theorem TnAll.append : ∀ {vs ws : List V} {ds es : List PyData}, TnAll K H vs ds → TnAll K H ws es → TnAll K H (vs ++ ws) (ds ++ es)
  | _, _, _, _, .nil, h => h
  | _, _, _, _, .cons a r, h => .cons a (TnAll.append r h)
theorem TnAll.length : ∀ {vs : List V} {ds : List PyData}, TnAll K H vs ds → vs.length = ds.length
  | _, _, .nil => rfl
  | _, _, .cons _ r => by rw [List.length_cons, List.length_cons, TnAll.length r]
theorem TnAll.one {v : V} {d : PyData} (h : Tn K H v d) : TnAll K H [v] [d] := .cons h .nil
theorem Tn.tup_inv {v : V} {ds : List PyData} (h : Tn K H v (.tuple ds)) : ∃ (a : Addr) (xs : List V), v = .ref a ∧ SqT K H a xs ∧ TnAll K H xs ds := by
  cases h with
  | tup q r => exact ⟨_, _, rfl, q, r⟩
theorem TnAll.get : ∀ {vs : List V} {ds : List PyData} {i : Nat} {v : V}, TnAll K H vs ds → vs[i]? = some v → ∃ d, ds[i]? = some d ∧ Tn K H v d
  | _, _, _, _, .nil, h => by simp at h
  | _, _, 0, _, .cons a _, h => by simp at h; subst h; exact ⟨_, rfl, a⟩
  | _, _, i + 1, v, .cons _ r, h => by
    obtain ⟨d, h1, h2⟩ := TnAll.get (i := i) (v := v) r (by simpa using h)
    exact ⟨d, by simpa using h1, h2⟩
theorem TnAll.strs_inv : ∀ {vs : List V} {zs : List Str}, TnAll K H vs (zs.map PyData.str) → vs = zs.map V.str
  | vs, [], h => by cases h; rfl
  | vs, z :: zs, h => by
    cases h with
    | cons a r => cases a; rw [TnAll.strs_inv r]; rfl
/-- a new tuple -/
theorem Tn.new {p : Addr} {xs : List V} {ds : List PyData} (h : TnAll K H xs ds) (hp : H p = none) : Tn K (upd H p (.tup xs)) (.ref p) (.tuple ds) :=
  .tup (SqT.of upd_same) (TnAll.keep (TK.of_same (Same.new hp _)) h)
end
/-! ### an if whose second way is shown once -/
def tIfC (c : TT) (t u : TS) : TS := fun D σ H => ∃ Mid : Hp → Prop, (c σ H fun b H1 => if b = true then t D σ H1 else Mid H1) ∧ ∀ H1, Mid H1 → u D σ H1
theorem ps_ifC {X : Cx} {c : Expr} {a b : List Stmt} {tc : TT} {t u : TS} {pos : Pos} (hc : PT X c tc) (ha : PSs X a t) (hb : PSs X b u) : PS X (.If c a b pos) (tIfC tc t u) := by
  refine ⟨fun pins s σ H D I h => ?_⟩
  obtain ⟨Mid, h, hu⟩ := h
  refine wpAny_If (thn (hc.run pins s σ H _ I h) fun d s1 ⟨H1, I1, q1⟩ => ?_)
  cases d with
  | true => exact ha.run pins s1 σ H1 D I1 q1
  | false => exact hb.run pins s1 σ H1 D I1 (hu H1 q1)
end Td
/-! The parts of a program. -/
namespace Td
open PySem PySem.Spec PyProof.Rows L2
/-- a list of different names -/
structure Names (ns : List Str) : Prop where
  good : ∀ z ∈ ns, isNm z = true
  nd : ns.Nodup
structure PP where
  words : List Str
  sources : List Str
  derived : List (Str × List Row)
  effects : List (Str × List Row)
def pairD (p : Str × List Row) : PyData := .tuple [.str p.1, .tuple (rowsD p.2)]
def strsD (zs : List Str) : PyData := .tuple (zs.map PyData.str)
def pairsD (ps : List (Str × List Row)) : PyData := .tuple (ps.map pairD)
def PP.data (p : PP) : PyData := .tuple [strsD p.words, strsD p.sources, pairsD p.derived, pairsD p.effects]
def PP.names (p : PP) : List Str := p.sources ++ p.derived.map (·.1) ++ p.effects.map (·.1)
def PP.cells (p : PP) : List Str := p.sources ++ p.derived.map (·.1)
/-- not too many rows; the last of them may be a give or a say beyond the room -/
def Lim (eff : Bool) (most : Nat) (rs : List Row) : Prop := cnts rs ≤ most ∧ ∃ rs0 t, rs = rs0 ++ t ∧ cnts rs0 + 1 ≤ most ∧ (t = [] ∨ ∃ s, t = [if eff then Row.say s else Row.give s])
/-- derived bodies are right, each behind the cells ahead of it -/
def okDer (words sources : List Str) (most : Nat) : List Str → List (Str × List Row) → Prop
  | _, [] => True
  | rd, p :: r => okRs ⟨false, words, sources, rd⟩ 1 p.2 ∧ Lim false most p.2 ∧ okDer words sources most (rd ++ [p.1]) r
def okEff (words sources rd : List Str) (most : Nat) : List (Str × List Row) → Prop
  | [] => True
  | p :: r => okRs ⟨true, words, sources, rd⟩ 1 p.2 ∧ Lim true most p.2 ∧ okEff words sources rd most r
structure PP.Ok (p : PP) (most : Nat) : Prop where
  w2 : 2 ≤ p.words.length
  w4 : p.words.length ≤ 4
  s1 : 1 ≤ p.sources.length
  s4 : p.sources.length ≤ 4
  d6 : p.derived.length ≤ 6
  e4 : p.effects.length ≤ 4
  wn : Names p.words
  nn : Names p.names
  der : okDer p.words p.sources most p.sources p.derived
  eff : okEff p.words p.sources p.cells most p.effects
theorem okDer_snoc {words sources : List Str} {most : Nat} : ∀ {ps : List (Str × List Row)} {rd : List Str} {p : Str × List Row}, okDer words sources most rd ps →
    okRs ⟨false, words, sources, rd ++ ps.map (·.1)⟩ 1 p.2 → Lim false most p.2 → okDer words sources most rd (ps ++ [p])
  | [], rd, p, _, h1, h2 => by
    show okDer words sources most rd [p]
    unfold okDer
    exact ⟨by simpa using h1, h2, by unfold okDer; trivial⟩
  | q :: ps, rd, p, h, h1, h2 => by
    show okDer words sources most rd (q :: (ps ++ [p]))
    unfold okDer at h ⊢
    refine ⟨h.1, h.2.1, okDer_snoc h.2.2 ?_ h2⟩
    simpa using h1
theorem okEff_snoc {words sources rd : List Str} {most : Nat} : ∀ {ps : List (Str × List Row)} {p : Str × List Row}, okEff words sources rd most ps →
    okRs ⟨true, words, sources, rd⟩ 1 p.2 → Lim true most p.2 → okEff words sources rd most (ps ++ [p])
  | [], p, _, h1, h2 => by
    show okEff words sources rd most [p]
    unfold okEff
    exact ⟨h1, h2, by unfold okEff; trivial⟩
  | q :: ps, p, h, h1, h2 => by
    show okEff words sources rd most (q :: (ps ++ [p]))
    unfold okEff at h ⊢
    exact ⟨h.1, h.2.1, okEff_snoc h.2.2 h1 h2⟩
theorem Names.sub {ns ms : List Str} (h : Names ns) (s : ms.Sublist ns) : Names ms := ⟨fun z hz => h.good z (s.subset hz), h.nd.sublist s⟩
/-- the keys of the shape -/
def shp (k c s sl w : V) : List (Key × V) := [(.inr "kind", k), (.inr "cells", c), (.inr "sources", s), (.inr "slots", sl), (.inr "words", w)]
def shp7 (k c s sl w p r : V) : List (Key × V) := [(.inr "kind", k), (.inr "cells", c), (.inr "sources", s), (.inr "slots", sl), (.inr "words", w), (.inr "peeks", p), (.inr "writes", r)]
def shp6 (k c s sl w p : V) : List (Key × V) := [(.inr "kind", k), (.inr "cells", c), (.inr "sources", s), (.inr "slots", sl), (.inr "words", w), (.inr "peeks", p)]
section
variable (k c s sl w p r k' c' p' r' : V)
theorem shp_merge : mergeK [] (shp k c s sl w) = shp k c s sl w := by kernel_rfl
theorem shp_peeks : putK (shp k c s sl w) (.inr "peeks") p = shp6 k c s sl w p := by kernel_rfl
theorem shp_writes : putK (shp6 k c s sl w p) (.inr "writes") r = shp7 k c s sl w p r := by kernel_rfl
theorem shp7_cells : putK (shp7 k c s sl w p r) (.inr "cells") c' = shp7 k c' s sl w p r := by kernel_rfl
theorem shp7_kind : putK (shp7 k c s sl w p r) (.inr "kind") k' = shp7 k' c s sl w p r := by kernel_rfl
theorem shp7_peeks : putK (shp7 k c s sl w p r) (.inr "peeks") p' = shp7 k c s sl w p' r := by kernel_rfl
theorem shp7_writes : putK (shp7 k c s sl w p r) (.inr "writes") r' = shp7 k c s sl w p r' := by kernel_rfl
theorem get_words : valV (shp7 k c s sl w p r) (.inr "words") = some w := by kernel_rfl
theorem get_slots : valV (shp7 k c s sl w p r) (.inr "slots") = some sl := by kernel_rfl
theorem get_cells : valV (shp7 k c s sl w p r) (.inr "cells") = some c := by kernel_rfl
theorem get_sources : valV (shp7 k c s sl w p r) (.inr "sources") = some s := by kernel_rfl
theorem get_kind : valV (shp7 k c s sl w p r) (.inr "kind") = some k := by kernel_rfl
theorem get_peeks : valV (shp7 k c s sl w p r) (.inr "peeks") = some p := by kernel_rfl
theorem get_writes : valV (shp7 k c s sl w p r) (.inr "writes") = some r := by kernel_rfl
end
theorem inV_strs (z : Str) (ws : List Str) : inV (.str z) (ws.map V.str) = decide (z ∈ ws) := by
  induction ws with
  | nil => rfl
  | cons y r ih =>
    show (eqV (.str y) (.str z) || inV (.str z) (r.map V.str)) = _
    rw [ih]
    have e : eqV (.str y) (.str z) = decide (z = y) := by
      show (_ : Bool) = _
      by_cases h : z = y
      · subst h; simp [eqV]
      · simp [eqV, h]
        intro h'; exact h h'.symm
    rw [e]
    simp
theorem flat_strs (ws : List Str) : (ws.map V.str).all flatV = true := by
  rw [List.all_eq_true]; intro y hy; obtain ⟨u, _, rfl⟩ := List.mem_map.mp hy; rfl
theorem cut_from1 (xs : List V) : cutV xs (some 1) none = xs.drop 1 := by
  unfold cutV
  rw [HT.sIx_none, show HT.sIx xs.length 0 (some 1) = min 1 xs.length from HT.sIx_nat _ _ 1]
  rcases xs with _ | ⟨x, r⟩
  · rfl
  · show ((x :: r).drop (min 1 (r.length + 1))).take ((r.length + 1) - min 1 (r.length + 1)) = _
    rw [show min 1 (r.length + 1) = 1 by omega]
    simp
theorem cut_to (xs : List V) (k : Nat) (h : k ≤ xs.length) : cutV xs none (some (k : Int)) = xs.take k := by
  unfold cutV
  rw [HT.sIx_none, HT.sIx_nat, List.drop_zero, Nat.sub_zero, Nat.min_eq_left h]
theorem not_whole1 {xs : List V} (h : xs ≠ []) (hi : Option Int) : ¬ (HT.sIx xs.length 0 (some 1) = 0 ∧ HT.sIx xs.length xs.length hi = xs.length) := by
  rintro ⟨e, _⟩
  rw [show HT.sIx xs.length 0 (some 1) = min 1 xs.length from HT.sIx_nat _ _ 1] at e
  have := List.length_pos_iff.mpr h
  omega
/-- the words with another one at the end -/
theorem Names.turn {ws : List Str} {z : Str} (h : Names ws) (hz : isNm z = true) (hn : z ∉ ws) : Names (ws.drop 1 ++ [z]) := by
  refine ⟨fun y hy => ?_, ?_⟩
  · rcases List.mem_append.mp hy with q | q
    · exact h.good y (List.mem_of_mem_drop q)
    · rw [List.mem_singleton.mp q]; exact hz
  · refine List.nodup_append.mpr ⟨h.nd.sublist (List.drop_sublist 1 ws), by simp, fun a ha b hb e => ?_⟩
    have : b = z := by simpa using hb
    subst this
    subst e
    exact hn (List.mem_of_mem_drop ha)
end Td
/-! Loops over texts and enumerated tuples; a call of one of several defs. -/
namespace Td
open PySem PySem.Spec PyProof.Rows L2
theorem tYes_of {σ : L2.St} {H : Hp} {A B : Hp → Prop} (h : A H) : tYes σ H (fun b H3 => if b = true then A H3 else B H3) := by
  show (if true = true then A H else B H)
  exact iteT h
theorem lc_str {z : Str} {g : TG} {tt : TT} {te : TE} {vs : List Nat} {σ : L2.St} {H1 : Hp} {D : Addr} {Qd : Hp → Prop} (Pv : Nat → Hp → Prop) (h0 : Pv 0 (upd H1 D (.lst [])))
    (hs : ∀ (i c : Nat) (H : Hp), z.cps[i]? = some c → Pv i H → g (.str ⟨#[c]⟩) (wipe σ vs) H fun σ2 H2 => wipe σ2 vs = wipe σ vs ∧ tt σ2 H2 fun b H3 =>
      if b = true then te σ2 H3 fun y H4 => ∃ acc, H4 D = some (.lst acc) ∧ acc.length < sizeLine ∧ Pv (i + 1) (upd H4 D (.lst (acc ++ [y]))) else Pv (i + 1) H3) (hd : ∀ H, Pv z.cps.size H → Qd H) :
    ∃ W : Nat → Nat → Hp → Prop, (∃ m, W 0 m (upd H1 D (.lst []))) ∧ ∀ i m H, W i m H →
      ((Its z).stop i H ∧ Qd H) ∨ ((Its z).go i H ∧ ∃ Nx : Hp → Prop, (∀ H', Nx H' → ∃ m', m' < m ∧ W (i + 1) m' H') ∧ ∀ x H', (Its z).yld i H x H' → g x (wipe σ vs) H' fun σ2 H2 => wipe σ2 vs = wipe σ vs ∧ tt σ2 H2 fun b H3 =>
        if b = true then te σ2 H3 fun y H4 => ∃ acc, H4 D = some (.lst acc) ∧ acc.length < sizeLine ∧ Nx (upd H4 D (.lst (acc ++ [y]))) else Nx H3) := by
  refine ⟨fun i m H => m = z.cps.size - i ∧ i ≤ z.cps.size ∧ Pv i H, ⟨z.cps.size, by simp, Nat.zero_le _, h0⟩, ?_⟩
  rintro i m H ⟨rfl, hi, p⟩
  by_cases hlt : i < z.cps.size
  · refine .inr ⟨hlt, Pv (i + 1), fun H' p' => ⟨z.cps.size - (i + 1), by omega, rfl, hlt, p'⟩, fun x H' y => ?_⟩
    obtain ⟨e, c, hc, ex⟩ := y
    subst e
    subst ex
    exact hs i c _ hc p
  · have e : i = z.cps.size := by omega
    subst e
    exact .inl ⟨Nat.le_refl _, hd H p⟩
theorem for_enumT {K : PySem.W.Frag} {a : Addr} {xs : List V} {g : TG} {tb : TS} {D : Ends} {σ : L2.St} {H : Hp} (Pv : Nat → L2.St → Hp → Prop) (h0 : Pv 0 σ H) (hl : ∀ i σ H, i ≤ xs.length → Pv i σ H → SqT K H a xs)
    (hs : ∀ (i : Nat) (x : V) (σ : L2.St) (H : Hp) (T : Addr), xs[i]? = some x → Pv i σ H → H T = none → g (.ref T) σ (upd H T (.tup [.int (i : Nat), x])) fun σ2 H2 => tb { D with nx := Pv (i + 1), ct := Pv (i + 1), bk := D.nx } σ2 H2)
    (hd : ∀ σ H, Pv xs.length σ H → D.nx σ H) :
    ∃ W : Nat → Nat → L2.St → Hp → Prop, (∃ m, W 0 m σ H) ∧ ∀ i m σ H, W i m σ H →
      ((IteT K a).stop i H ∧ D.nx σ H) ∨ ((IteT K a).go i H ∧ ∃ N : L2.St → Hp → Prop, (∀ σ' H', N σ' H' → ∃ m', m' < m ∧ W (i + 1) m' σ' H') ∧
        ∀ x H', (IteT K a).yld i H x H' → g x σ H' fun σ2 H2 => tb { D with nx := N, ct := N, bk := D.nx } σ2 H2) := by
  refine ⟨fun i m σ H => m = xs.length - i ∧ i ≤ xs.length ∧ Pv i σ H, ⟨xs.length, by simp, Nat.zero_le _, h0⟩, ?_⟩
  rintro i m σ H ⟨rfl, hi, p⟩
  have q := hl i σ H hi p
  by_cases hlt : i < xs.length
  · refine .inr ⟨⟨xs, xs[i], q, by simp [hlt]⟩, Pv (i + 1), fun σ' H' p' => ⟨xs.length - (i + 1), by omega, rfl, hlt, p'⟩, fun x H' y => ?_⟩
    obtain ⟨T, u, ex, hT, eH, hu⟩ := y
    subst ex
    subst eH
    exact hs i u σ H T (hu xs q) p hT
  · have e : i = xs.length := by omega
    subst e
    exact .inl ⟨⟨xs, q, rfl⟩, hd σ H p⟩
/-- a call of a local name that holds one of several defs -/
def tCallR (i : Nat) (S : Addr → Sp → Prop) (t : TA) : TE := fun σ H Q => ∃ f sp, σ[i]? = some (some (.ref f)) ∧ S f sp ∧ t σ H fun vs H1 => sp vs H1 Q (fun _ _ _ => False)
section
variable {X : Cx} {k i : Nat} {x : Str} {p pos : Pos} {e : Expr} {es : List Expr} {t : TA}
theorem pe_callR {S : Addr → Sp → Prop} (A : ∀ f sp, S f sp → Held X.prog X.w X.K X.mg X.base k f sp) (hr : Room k X.A) (hN : X.N[i]? = some x) (hv : Vis X.env.scope x) (ha : PA X (e :: es) t)
    (hdb : (x == ("__debug__" : Str)) = false := by decide) (hcd : (x == ("__classdict__" : Str)) = false := by decide)
    (he : starEach (e :: es) X.env = (false, eval e X.env) :: starEach es X.env := by rfl) (hpl : (backTo pos (starEach es X.env)).any (·.1) = false := by rfl) :
    PE X (.Call (.Name x p) (e :: es) [] pos) (tCallR i S t) := by
  refine ⟨fun pins s σ H Q I h => ?_⟩
  obtain ⟨f, sp, h1, h2, h3⟩ := h
  exact (pe_callA (S := fun g => if g = f then some sp else none) (fun g sp' h => by
    split at h
    · rename_i e1
      cases h
      rw [e1]
      exact A f sp h2
    · cases h) hr hN hv ha hdb hcd he hpl).run pins s σ H Q I ⟨f, sp, h1, if_pos rfl, h3⟩
end
end Td
/-! A method whose first statement is super().__init__() with no more arguments. -/
namespace Td
open PySem PySem.Spec PyProof.Rows L2
/-- what is written of such a method: it stands at f in the class at C, its class cell at cc; g is the other class's __init__ -/
structure Sup (P : Program) (K : PySem.W.Frag) (qual : Str) (st : Stmt) (f C g : Addr) (fd : FuncData) : Prop where
  ex : ∃ (oc : Value) (od : Option Addr) (sl : Array (Option Value)) (kV doc pm : Value) (an : Option Addr) (ct : Value) (cc cda : Addr) (ccl : Value) (cdd : Option Addr) (vs : Array Value) (ccs : Array (Option Value)) (file : Str) (tf : Tok) (cl : Value) (cld : Option Addr) (csl : Array (Option Value)),
    fd = PySem.W.fnX "__init__" qual (defArgs st) (defBody st) (defScope st) [("__class__", cc)] .none kV doc pm an (.ref cda) ct ∧ K.lookup f = some ⟨oc, od, .func fd, sl⟩ ∧ PySem.W.codeIn K (.ref cda) qual = true ∧
    K.lookup cda = some ⟨ccl, cdd, .fields vs, ccs⟩ ∧ vs[2]? = some (.str file tf) ∧ ((P.main.file : Str) == file) = true ∧ K.lookup cc = some ⟨cl, cld, .cell (some (.ref C)), csl⟩
  cls : ∃ cd, PySem.W.clsIn K C = some cd
  mro : PySem.W.mroIn K C (.ref C) = some true
  up : PySem.W.ks_superIn K C C "__init__" = some (some (.ref g))
  ty : PySem.W.typeIn K (.ref g) = some (.type "function")
  fn : PySem.W.fnIn K g = true
  opq : PySem.W.nsIn K cStatics "thirdparty.any" = some none
  glob : PySem.W.nsIn K mainGlobals "super" = some none
  kp : PySem.W.keepIn K (.ref f) = true
def supNF (qual : Str) (st : Stmt) (cc cda : Addr) : NdefX.NF := ⟨"__init__", qual, defArgs st, defBody st, defScope st, [("__class__", cc)], cda⟩
theorem sup_tree {o : Expr} {m : Str} {ap cp : Pos} {env : PySem.Env} (hl : (ap.endLine == cp.line) = true) : eval (.Call (.Attribute o m ap) [] [] cp) env = (do
      let ov ← attributeBase o m env (eval o env)
      standAt ap.atName
      let (f, first) ← holding [ov] (getMethod ov m (plainOf o env))
      callWith cp f first (backTo cp (starEach [] env)) []) := by
  rw [arm_eval_Call]
  refine bind_congr fun ov => bind_congr fun _ => ?_
  exact mcall_line rfl hl
section
variable {P : Program} {w : World} {K : PySem.W.Frag} {mg : Str → Option Value} {base : Heap}
theorem Sup.binds {qual : Str} {st : Stmt} {f C g : Addr} {fd : FuncData} {ps : List Str} (F : Sup P K qual st f C g fd)
    (h : ∀ (kV doc pm : Value) (an : Option Addr) (cdv ct : Value) (cc : Addr) (us : List Value), us.length = ps.length → bindArgs (PySem.W.fnX "__init__" qual (defArgs st) (defBody st) (defScope st) [("__class__", cc)] .none kV doc pm an cdv ct) ⟨us, []⟩ = pure (ps.zip us)) : Binds K fd ps [] := by
  obtain ⟨oc, od, sl, kV, doc, pm, an, ct, cc, cda, ccl, cdd, vs, ccs, file, tf, cl, cld, csl, rfl, _⟩ := F.ex
  exact .all (h kV doc pm an (.ref cda) ct cc)
theorem fn_super {qual : Str} {st : Stmt} {f C g : Addr} {fd gd : FuncData} {N ps : List Str} {k : Nat} {sp spG : Sp} {p0 p1 ap cp ep : Pos} {rest : List Stmt} {ar : Arg} {us0 : List Str}
    (F : Sup P K qual st f C g fd) (hst : defBody st = .Expr (.Call (.Attribute (.Call (.Name "super" p0) [] [] p1) "__init__" ap) [] [] cp) ep :: rest)
    (S : NdefX.NScope N ps ["__class__"] (defScope st)) (hps : ps = ar.arg :: us0) (har : ((defArgs st).posonlyargs ++ (defArgs st).args).head? = some ar)
    (hline : (ap.endLine == cp.line) = true) (hks : (defScope st).names.lookup ("super" : Str) = some .globalImplicit) (htop : (P.main.scope.names.lookup ("super" : Str)).isSome = false)
    (G : FnOk P w K mg base CX0 k g gd [ar.arg] spG) (bG : Binds K gd [ar.arg] [])
    (len : ∀ vs H Q E, sp vs H Q E → vs.length = ps.length)
    (hbody : ∀ (A : Around) (outer : List PySem.Env) (s : Shared) (H : Hp) (vs : List V) (Q : VK) (E : XK) (cc cda : Addr), Room k (A.deeper (NdefX.envF (supNF qual st cc cda) f s.heap.objs.size)) → sp vs H Q E →
      ∃ (x dx : Addr) (fs : List (Str × V)) (vs' : List V), vs = .ref x :: vs' ∧ H x = some (.ins C dx fs) ∧ spG [.ref x] H (fun v H' => v = .non ∧
        ∃ t, PSs (NdefX.ncx CX0 P w K mg base N (supNF qual st cc cda) f A outer s H E) rest t ∧ t { nx := fun _ H' => Q .non H', rt := Q } (NdefX.startF N vs [none]) H') E0) :
    FnOk P w K mg base CX0 (k + 1) f fd ps sp := by
  refine ⟨len, fun A outer s H args us vs Q E hr e0 hb r hsp => ?_⟩
  obtain ⟨oc, od, sl, kV, doc, pm, an, ct, cc, cda, ccl, cdd, cvs, ccs, file, tf, cl, cld, csl, rfl, lk, hcd, lcd, hcv, hfile, lcc⟩ := F.ex
  have hl := len _ _ _ _ hsp
  have KX : K.In s.heap := e0.mod.kin.keeps fun b o e => (e0.bs b o e).1
  have lim : s.heap.NoLimit := e0.mod.nolimit.keeps fun b o e => (e0.bs b o e).1
  refine ks_codeAny_call_defAt hr.depth (KX _ _ lk) rfl lim (PySem.W.codeRec_of KX hcd) rfl hb S.nocell (fun ⟨n, _⟩ hy => S.par n (List.of_mem_zip hy).1) (fun h₁ hns kp => ?_) S.co S.gen S.kind
  show PySem.wpAt _ (A.deeper (NdefX.envF (supNF qual st cc cda) f s.heap.objs.size)) (.func (defBody st) (NdefX.envF (supNF qual st cc cda) f s.heap.objs.size)) (execs (defBody st) (NdefX.envF (supNF qual st cc cda) f s.heap.objs.size)) _ _ _
  have cells : NdefX.CellsAt (supNF qual st cc cda).cl ["__class__"] [none] s.heap H := by
    have one : ∀ y c, List.lookup y [(("__class__" : Str), cc)] = some c → y = "__class__" ∧ c = cc := fun y c e => by
      by_cases z : y = ("__class__" : Str)
      · subst z
        simp [List.lookup] at e
        exact ⟨rfl, e.symm⟩
      · have q : (y == ("__class__" : Str)) = false := by simpa using z
        simp [List.lookup, q] at e
    refine ⟨rfl, fun y c e => ?_, fun x y c e1 e2 => (one x c e1).1.trans (one y c e2).1.symm, fun i y e => ?_⟩
    · obtain ⟨_, rfl⟩ := one y c e
      exact ⟨(e0.bs _ _ (e0.mod.kin _ _ lcc)).2, some (.ref C), _, KX _ _ lcc, rfl⟩
    · cases i with
      | zero =>
        have ey : y = "__class__" := (Option.some.inj e).symm
        subst ey
        exact ⟨cc, by simp [supNF, List.lookup], fun v z => by simp at z⟩
      | succ n => simp at e
  have I : Inv (NdefX.ncx CX0 P w K mg base N (supNF qual st cc cda) f A outer s H E) [] (NdefX.startF N vs [none]) H { s with heap := h₁, toks := s.toks + (ps.zip us).length } := NdefX.inv_startN S hr.hd e0 hl r cells hns kp
  obtain ⟨x, dx, fs, vs', rfl, hx, hG⟩ := hbody A outer s H vs Q E cc cda (hr.deeper _) hsp
  cases r with
  | cons ru rr =>
    rename_i u0 us1
    obtain rfl : u0 = Value.ref x := ru
    have K1 : K.In h₁ := I.kIn
    obtain ⟨cd, hcls⟩ := F.cls
    obtain ⟨oD, hD1, hD2⟩ : ∃ oD, h₁.get? C = some oD ∧ oD.data = .cls cd := by
      unfold PySem.W.clsIn at hcls
      split at hcls
      · rename_i c d cd' sl' ho
        cases hcls
        exact ⟨_, K1 _ _ ho, rfl⟩
      · cases hcls
    obtain ⟨mA, O, _⟩ := ins_get I.hok hx
    obtain ⟨od1, J, _⟩ := O.look
    have nx : (NdefX.envF (supNF qual st cc cda) f s.heap.objs.size).kindOf "super" = some .globalImplicit := hks
    have nc : (NdefX.envF (supNF qual st cc cda) f s.heap.objs.size).kindOf "__class__" = some .free := S.frk _ (by simp)
    have ns : (NdefX.envF (supNF qual st cc cda) f s.heap.objs.size).kindOf ar.arg = some .local := S.par _ (by rw [hps]; simp)
    obtain ⟨mb, hb1, hb2⟩ := e0.mod.blt
    rw [hst]
    refine ks_wpAt_execs_cons (ks_wpAt_Expr_any ?_ I.quiet)
    refine ks_wpAt_MethodCall ?_ (sup_tree hline)
    refine ks_wpAt_super_base nx nc rfl rfl (K1 _ _ lk) rfl har rfl (K1 _ _ lcd) rfl hcv hfile htop ?_
    refine PySem.W.ks_loadName_global S.kind nx (Calls.loadGlobal_builtin (by exact e0.mod.glob.keeps I.bk) (PySem.W.mg_none_of e0.mod.kin e0.mod.glob F.glob) (by exact hb1.keeps I.bk) ((hb2 "super" (by decide)).trans (by decide +kernel : bootBuiltins "super" = some (.type "super"))) ⟨rfl, ?_⟩)
    refine wpAny_loadName_free S.kind nc rfl ⟨_, K1 _ _ lcc, rfl⟩ ?_
    refine wpAny_loadName_local S.kind ns hns (v := .ref x) ?_ ?_
    · rw [hps, List.zip_cons_cons, List.reverse_cons, List.lookup_append]
      have hn : (us0.zip us1).reverse.lookup ar.arg = none := by
        have nd := S.nd.sublist (List.take_sublist (ps.length + 1) N)
        have pre := S.pre
        rw [show (["__class__"] : List Str).length = 1 from rfl] at pre
        rw [pre, hps, List.cons_append] at nd
        exact NdefX.look_none fun v hv => (List.nodup_cons.mp nd).1 (List.mem_append_left _ (List.of_mem_zip (List.mem_reverse.mp hv)).1)
      rw [hn]
      simp [List.lookup]
    refine ks_wpAny_isType_cls hD1 hD2 ⟨rfl, ?_⟩
    refine ks_wpAny_call_super hD1 hD2 J.at_ J.cls (fun c e => by cases e) (PySem.W.looks_mroIn K1 F.mro) (fun h' eso k' => ?_)
    have K2 : K.In h' := K1.keeps k'
    have hgf : ∃ of, h'.get? g = some of ∧ of.cls = .type "function" := by
      have ht' : (K.lookup g).map (·.cls) = some (.type "function") := F.ty
      cases z : K.lookup g with
      | none => rw [z] at ht'; cases ht'
      | some of => rw [z] at ht'; exact ⟨of, K2 _ _ z, Option.some.inj ht'⟩
    obtain ⟨of, hof, hofc⟩ := hgf
    have hup := F.up
    unfold PySem.W.ks_superIn at hup
    rw [hcls] at hup
    refine ks_wpAny_getMethod_super eso (PySem.W.looks_opaque K2 F.opq) (l₀ := cd.mro) ?_ rfl K2 hup hof hofc (PySem.W.ks_ne K1 J hcls) rfl ?_
    · exact fun A Q E s k q => wpAny_bind ((PySem.W.looks_clsIn K2 hcls) A _ E s k (wpAny_pure q))
    have k3 : ∀ b o, h₁.get? b = some o → (h'.push { cls := .type "method", data := .fields #[.ref g, .ref x] }).get? b = some o := fun b o e => Heap.get?_push_of_some _ (k' b o e)
    have J2 := I.kept (t' := s.toks + (ps.zip (Value.ref x :: us1)).length + 1) k3
    refine PySem.W.callWith_M0 (g := g) (self := .ref x) (K := K) ⟨Heap.get?_push_at rfl rfl, J2.kIn⟩ F.fn (wpAny_call (ks_codeAny_call_bound (Heap.get?_push_at rfl rfl) ?_))
    refine codeAny_mono (G.run _ _ _ H ⟨[.ref x], []⟩ [.ref x] [.ref x] _ E0 (hr.deeper _) J2.env0 (bG _ [.ref x] J2.kIn rfl) (.cons rfl .nil) hG) fun r s' hq => ?_
    cases r with
    | error e => exact hq.elim
    | ok fl =>
      cases fl with
      | next => exact False.elim hq
      | brk => exact False.elim hq
      | cont => exact False.elim hq
      | ret u =>
        obtain ⟨v, H', J3, rv, ev, t, ht, hq3⟩ := J2.after hq
        refine PySem.wpAt_of_wpAny ?_
        refine wpAny_mono (ht.run [] s' _ H' _ J3 hq3) (fun fl s2 hs => ?_) fun e s2 hs => hs
        have fin : ∀ {σ' : L2.St} {H' : Hp} {v : V} {u : Value}, Inv (NdefX.ncx CX0 P w K mg base N (supNF qual st cc cda) f A outer s H E) [] σ' H' s2 → RelV v u → Q v H' → CE outer P w H s Q u s2 :=
          fun {σ' H' v u} J rv q => ⟨v, H', J.os, J.bare, J.base, J.hok, rv, q⟩
        cases fl with
        | ret u =>
          obtain ⟨v, σ', H', J, rv, q⟩ := hs
          exact fin J rv q
        | next =>
          obtain ⟨σ', H', J, q⟩ := hs
          exact fin (v := V.non) (u := Value.none) J rfl q
        | brk =>
          obtain ⟨_, _, _, q⟩ := hs
          exact False.elim q
        | cont =>
          obtain ⟨_, _, _, q⟩ := hs
          exact False.elim q
end
end Td
/-! Own exceptions of one field; several clauses with a name each; a datum in a tuple. -/
namespace Td
open PySem PySem.Spec PyProof.Rows L2
/-! ### a datum in a tuple of data -/
def rInDT (K : PySem.W.Frag) (neg : Bool) : R2 := fun x y H Q => ∃ d ds, Dp K H x d ∧ Dp K H y (.tuple ds) ∧ SeqAt.shaped d = true ∧ SeqAt.shaped (.tuple ds) = true ∧ Q (.bl (if neg then !(ds.any fun z => PyData.eqv z d) else ds.any fun z => PyData.eqv z d)) H
section
variable {X : Cx}
theorem op_inDT (hu : X.A.units + 65 < cLine) : OpR X (compareOp .In) (rInDT X.K false) := by
  rintro pins s σ H x y v u Q I rx ry ⟨d, ds, h1, h2, e1, e2, q⟩
  obtain ⟨la, ra⟩ := Dp.reads I d x v h1 rx
  obtain ⟨lb, rb⟩ := Dp.reads I (.tuple ds) y u h2 ry
  exact SeqAt.in_tuple_reads rb ra (SeqAt.canLay_of_shaped e2) (SeqAt.canLay_of_shaped e1) (room_in_shaped e1 hu) ⟨.bl _, H, I, rfl, q⟩
end
theorem units65 {k : Nat} {A : Around} (r : Room k A) : A.units + 65 < cLine := by have := r.un; omega
/-! ### an own exception of one field -/
def spExc (K : PySem.W.Frag) (C : Addr) : Str → Sp := fun f vs H Q _ => ∃ (a : Addr) (y : V), vs = [.ref a, y] ∧ H a = some (exo a C none) ∧
  ∀ dx H', H dx = none → dx ≠ a → H' = upd (upd H dx (exd dx [(f, y)])) a (exo a C (some dx)) → Q .non H'
/-- what a raise wants of the way out -/
def Rz (C : Addr) (f : Str) (y : V) (H : Hp) (E : XK) : Prop := ∀ (d : Addr) (H' : Hp), Same H H' → H d = none → H' d = some (.xd [(f, y)]) → E (.ref C) (some d) H'
theorem Rz.later {C : Addr} {f : Str} {y : V} {H H1 : Hp} {E : XK} (r : Rz C f y H E) (s : Same H H1) : Rz C f y H1 E := fun d H' s' hd e => by
  refine r d H' (s.trans s') ?_ e
  cases z : H d with
  | none => rfl
  | some o => rw [s _ _ z] at hd; cases hd
theorem one_field {H : Hp} {a C dx : Addr} {f : Str} {y : V} (ha : H a = none) (hx : dx ≠ a) :
    upd (del (upd (upd (upd H a (exo a C none)) dx (exd dx [(f, y)])) a (exo a C (some dx))) a) dx (.xd [(f, y)]) = upd H dx (.xd [(f, y)]) := by
  funext b
  by_cases h1 : b = dx
  · rw [h1, upd_same, upd_same]
  · rw [upd_ne h1, upd_ne h1]
    by_cases h2 : b = a
    · rw [h2, del_same, ha]
    · rw [del_ne h2, upd_ne h2, upd_ne h1, upd_ne h2]
/-- the making of such an exception, with its argument at hand -/
theorem made_one {K : PySem.W.Frag} {C : Addr} {f : Str} {y : V} {H : Hp} {Q : XK} (q : Rz C f y H Q) : [y].length ≤ 1000 ∧ ∀ a, H a = none → spExc K C f (.ref a :: ([y] ++ [])) (upd H a (exo a C none))
    (fun v H2 => v = .non ∧ ∃ (d : Addr) (fs : List (Str × V)), H2 a = some (exo a C (some d)) ∧ H2 d = some (exd d fs) ∧ H d = none ∧ Q (.ref C) (some d) (upd (del H2 a) d (.xd fs))) (fun _ _ _ => False) := by
  refine ⟨by show 1 ≤ 1000; decide, fun a ha => ⟨a, y, rfl, upd_same, fun dx H' hdx hne e => ⟨rfl, dx, [(f, y)], ?_, ?_, ?_, ?_⟩⟩⟩
  · rw [e]; exact upd_same
  · rw [e, upd_ne hne]; exact upd_same
  · rw [upd_ne hne] at hdx; exact hdx
  · have hd : H dx = none := by rw [upd_ne hne] at hdx; exact hdx
    rw [e, one_field ha hne]
    exact q dx _ (Same.new hd _) hd upd_same
/-! ### try: .. except A as e: .. except B as e: .. -/
abbrev SuiteT : Type := Addr → Value → Option Addr → TS
/-- D, slot i emptied ahead of it -/
def emptied (i : Nat) (D : Ends) : Ends := { nx := fun τ G => D.nx (τ.set i none) G, rt := D.rt, bk := fun τ G => D.bk (τ.set i none) G, ct := fun τ G => D.ct (τ.set i none) G }
def wAsL (K : PySem.W.Frag) (Wout : WX) (D : Ends) : List (Value × Nat × SuiteT) → WX
  | [] => Wout
  | q :: r => fun cls d σ H => ∃ b, PySem.W.exmOne K cls q.1 = some b ∧ (b = true → ∀ a, H a = none → q.2.2 a cls d (emptied q.2.1 D) (σ.set q.2.1 (some (.ref a))) H) ∧ (b = false → wAsL K Wout D r cls d σ H)
inductive Clauses (X : Cx) : List ExceptHandler → List (Value × Nat × SuiteT) → Prop
  | none : Clauses X [] []
  | more {x n : Str} {c : Value} {i : Nat} {t : SuiteT} {st : Stmt} {sts : List Stmt} {p p' : Pos} {hs : List ExceptHandler} {l : List (Value × Nat × SuiteT)} (hi : X.N[i]? = some n) (hn : X.env.kindOf n = some .local) (hc : L2.Names X x c)
      (go : ∀ (a : Addr) (o : Obj) (cls : Value) (d : Option Addr) (pn : List (Addr × Obj)), Zc cls d o → (∃ vs, o.data = .fields vs) → PSs (X.suite a ((a, o) :: pn)) (st :: sts) (t a cls d)) (r : Clauses X hs l) :
      Clauses X (.ExceptHandler (some (.Name x p)) (some n) (st :: sts) p' :: hs) ((c, i, t) :: l)
section
variable {X : Cx}
theorem ps_try_asL {body : List Stmt} {h : ExceptHandler} {hs : List ExceptHandler} {l : List (Value × Nat × SuiteT)} {pos : Pos} {tb : WX → TS} {Wout : WX} (h1 : X.stack = X.env :: X.outer) (h2 : X.env.frame = some X.env.locals) (nd : X.N.Nodup) (tk : Takes X Wout)
    (hb : ∀ (W : WX) (pn : List (Addr × Obj)) (xe : Value → Shared → Prop), Takes (X.tr pn xe) W → PassesOwn (model X.prog X.w) X.A X.env xe → PSs (X.tr pn xe) body (tb W))
    (hh : Clauses X (h :: hs) l) : PS X (.Try body (h :: hs) [] [] pos) (fun D σ H => tb (wAsL X.K Wout D l) D σ H) := by
  constructor
  intro pins s σ H D I want
  have okX := I.ok
  have frX : X.A.frames = some (X.env :: X.outer) := okX.frames.trans (congrArg some h1)
  refine wpAny_Try_except (wpAny_mono ((hb (wAsL X.K Wout D l) (X.pn ++ pins) (fun e s₁ => wpAny (model X.prog X.w) X.A (noteFrame e X.env) (fun _ s₂ => wpAny (model X.prog X.w) X.A (setFlight e none)
    (fun _ s₃ => wpAny (model X.prog X.w) X.A (handleBy e X.env (h :: hs)) (SP X pins D) X.xe s₃) X.xe s₂) X.xe s₁) (fun u s1 got => ?_) PassesOwn.looking).run [] s σ H D (I.toTry _) want) (fun fl s1 fin => ?_) fun _ _ z => z)
  · obtain ⟨a, B, sI, pins', τ, G, cls, d, rfl, J0, nb, up, sky, na, os, ag, w⟩ := got
    have J := J0.ofTry okX
    rw [h1] at sky
    show wpAny (model X.prog X.w) X.A (noteFrame (.ref a) X.env) _ _ _
    refine Sky.land Zc.steady frX h2 sky fun hp fly up1 => ?_
    have JP : Inv X pins τ G { s1 with heap := hp } := J.landed nb fly.1 (up.trans up1) os ag
    obtain ⟨o, vs, ho, hz, hd⟩ := fly.there
    have off : a ∉ frs (X.env :: X.outer) := fun m => by
      obtain ⟨_, o', e', nf⟩ := fly.2.2.1.mem m
      rw [ho] at e'
      cases e'
      exact nf _ hd
    have offL : a ≠ X.env.locals := fun z => off (List.mem_filterMap.mpr ⟨X.env, List.mem_cons_self, by rw [h2, z]⟩)
    have offF : a ∉ X.fs := fun m => by
      obtain ⟨ev, he, q⟩ := List.mem_filterMap.mp m
      exact off (List.mem_filterMap.mpr ⟨ev, List.mem_cons_of_mem _ he, q⟩)
    have SP0 := JP.suite ho hd na offL offF
    suffices all : ∀ {hs' : List ExceptHandler} {l' : List (Value × Nat × SuiteT)}, Clauses X hs' l' → wAsL X.K Wout D l' cls d τ G → wpAny (model X.prog X.w) X.A (handleBy (.ref a) X.env hs') (SP X pins D) X.xe { s1 with heap := hp } from all hh w
    intro hs' l' cl
    induction cl with
    | none =>
      intro w0
      refine wpAny_handleBy_nil ?_
      obtain ⟨_, _, _, o1, vs1, T, _, _, ho1, _, hd1, hv1, _⟩ := id fly
      unfold PySem.passOn
      refine wpAny_bind (wpAny_field ho1 hd1 hv1 ?_)
      rw [if_neg (show ¬ ((Value.ref T == Value.none) = true) by simp)]
      have away : wpAny (model X.prog X.w) X.A (setFlight (.ref a) X.env.frame) (fun _ s4 => wpAny (model X.prog X.w) X.A (throw (.ref a) : Sem Flow) (SP X pins D) X.xe s4) X.xe { s1 with heap := hp } := by
        rw [h2]
        exact HandSPX.setFlight_upZ fly fun hq kq uq => wpAny_throw (tk _ _ ⟨a, B, sI, pins, τ, G, cls, d, rfl, J, nb, (up.trans up1).trans uq, .inr (.inr (by rw [h1]; exact kq)), na, os, ag, w0⟩)
      first
        | exact wpAny_bind (wpAny_pure (wpAny_bind away))
        | exact wpAny_bind away
    | @more x n c i t st sts p p' hs2 l2 hi hn hc go r ih =>
      intro w0
      obtain ⟨b, hm, yes, no⟩ := w0
      refine wpAny_handleBy_cons (codeAny_handlers_test ?_) (by intro q; cases q)
      have tyA : PySem.W.Looks (model X.prog X.w) hp (typeOf (.ref a)) cls := fun _ _ _ _ k q => wpAny_typeOf_ref (k _ _ ho) (by rw [hz.1]; exact q)
      have mt := PySem.W.exm_one (M := model X.prog X.w) JP.kIn tyA hm
      have name : ∀ {Q : Value → Shared → Prop} {E : Value → Shared → Prop}, Q c { s1 with heap := hp } → wpAny (model X.prog X.w) (X.A.mark (some (.ref a))) (eval (.Name x p) X.env) Q E { s1 with heap := hp } := fun q => by
        rcases hc with ⟨hg, hdb, hm1 | ⟨hm1, hv1, hn1⟩⟩
        · exact ld_glob (X := X.suite a ((a, o) :: (X.pn ++ pins))) SP0 hg hm1 q hdb
        · exact ld_blt (X := X.suite a ((a, o) :: (X.pn ++ pins))) SP0 hg hm1 hv1 q hn1 hdb
      refine name (mt.here ?_)
      cases b with
      | false => exact ih (no rfl)
      | true =>
        refine codeAny_handlers_suite_as (HandSPX.lands_againZ fly fun hq fq uq => ?_)
        have JQ : Inv X pins τ G { s1 with heap := hq } := J.landed nb fq.1 ((up.trans up1).trans uq) os ag
        obtain ⟨oq, vq, hoq, hzq, hdq⟩ := fq.there
        refine store_ok (X := X.suite a ((a, oq) :: (X.pn ++ pins))) (v := .ref a) (JQ.suite hoq hdq na offL offF) nd hi (.inl hn) rfl (fun s5 S5 => ?_) (.inr hn)
        refine wpAny_mono ((go a oq cls d (X.pn ++ pins) hzq ⟨_, hdq⟩).run [] s5 _ G _ S5 (yes rfl a na)) (fun fl s6 e6 => ?_) fun _ _ z => z.elim
        have gone : ∀ {τ6 : L2.St} {G6 : Hp} {Q : Shared → Prop}, Inv (X.suite a ((a, oq) :: (X.pn ++ pins))) [] τ6 G6 s6 → (∀ s7, Inv X pins (τ6.set i none) G6 s7 → Q s7) →
            wpAny (model X.prog X.w) X.A (do bindName X.env n .none; unbindBehindTheSuite X.env n p') (fun _ s7 => Q s7) X.xe s6 := fun S6 hq => gone_ok (S6.unsuite okX) nd hi hn hq
        cases fl with
        | next => exact let ⟨_, _, S6, q6⟩ := e6; gone S6 fun _ J7 => ⟨_, _, J7, q6⟩
        | brk => exact let ⟨_, _, S6, q6⟩ := e6; gone S6 fun _ J7 => ⟨_, _, J7, q6⟩
        | cont => exact let ⟨_, _, S6, q6⟩ := e6; gone S6 fun _ J7 => ⟨_, _, J7, q6⟩
        | ret u => exact let ⟨_, _, _, S6, r6, q6⟩ := e6; gone S6 fun _ J7 => ⟨_, _, _, J7, r6, q6⟩
  · cases fl with
    | next => exact let ⟨τ, G, J, q⟩ := fin; wpAny_execs_nil ⟨τ, G, J.ofTry okX, q⟩
    | brk => exact let ⟨τ, G, J, q⟩ := fin; ⟨τ, G, J.ofTry okX, q⟩
    | cont => exact let ⟨τ, G, J, q⟩ := fin; ⟨τ, G, J.ofTry okX, q⟩
    | ret u => exact let ⟨v, τ, G, J, r, q⟩ := fin; ⟨v, τ, G, J.ofTry okX, r, q⟩
end
end Td
/-! Own exceptions of two fields. -/
namespace Td
open PySem PySem.Spec PyProof.Rows L2
def spExc2 (K : PySem.W.Frag) (C : Addr) (f1 f2 : Str) : Sp := fun vs H Q _ => ∃ (a : Addr) (y1 y2 : V), vs = [.ref a, y1, y2] ∧ H a = some (exo a C none) ∧
  ∀ dx H', H dx = none → dx ≠ a → H' = upd (upd (upd H dx (exd dx [(f1, y1)])) a (exo a C (some dx))) dx (exd dx [(f2, y2), (f1, y1)]) → Q .non H'
theorem two_fields {H : Hp} {a C dx : Addr} {f1 f2 : Str} {y1 y2 : V} (ha : H a = none) (hx : dx ≠ a) :
    upd (del (upd (upd (upd (upd H a (exo a C none)) dx (exd dx [(f1, y1)])) a (exo a C (some dx))) dx (exd dx [(f2, y2), (f1, y1)])) a) dx (.xd [(f2, y2), (f1, y1)]) = upd H dx (.xd [(f2, y2), (f1, y1)]) := by
  funext b
  by_cases h1 : b = dx
  · rw [h1, upd_same, upd_same]
  · rw [upd_ne h1, upd_ne h1]
    by_cases h2 : b = a
    · rw [h2, del_same, ha]
    · rw [del_ne h2, upd_ne h1, upd_ne h2, upd_ne h1, upd_ne h2]
theorem made_two {K : PySem.W.Frag} {C : Addr} {f1 f2 : Str} {y1 y2 : V} {H : Hp} {Q : XK} (q : ∀ (d : Addr) (H' : Hp), Same H H' → H d = none → H' d = some (.xd [(f2, y2), (f1, y1)]) → Q (.ref C) (some d) H') :
    [y1, y2].length ≤ 1000 ∧ ∀ a, H a = none → spExc2 K C f1 f2 (.ref a :: ([y1, y2] ++ [])) (upd H a (exo a C none))
    (fun v H2 => v = .non ∧ ∃ (d : Addr) (fs : List (Str × V)), H2 a = some (exo a C (some d)) ∧ H2 d = some (exd d fs) ∧ H d = none ∧ Q (.ref C) (some d) (upd (del H2 a) d (.xd fs))) (fun _ _ _ => False) := by
  refine ⟨by show 2 ≤ 1000; decide, fun a ha => ⟨a, y1, y2, rfl, upd_same, fun dx H' hdx hne e => ⟨rfl, dx, [(f2, y2), (f1, y1)], ?_, ?_, ?_, ?_⟩⟩⟩
  · rw [e, upd_ne (Ne.symm hne)]; exact upd_same
  · rw [e]; exact upd_same
  · rw [upd_ne hne] at hdx; exact hdx
  · have hd : H dx = none := by rw [upd_ne hne] at hdx; exact hdx
    rw [e, two_fields ha hne]
    exact q dx _ (Same.new hd _) hd upd_same
/-! ### isinstance(e, c) of the error that a suite holds -/
def rIsX (K : PySem.W.Frag) (a : Addr) (cls : Value) (d : Option Addr) (C : Addr) : List V → Hp → VK → Prop := fun xs H Q => cls = .ref C ∧ ∃ (dd : Addr) (fs : List (Str × V)) (c : V) (cv : Value) (b : Bool), d = some dd ∧ H dd = some (.xd fs) ∧ xs = [.ref a, c] ∧ (∀ u, RelV c u → u = cv) ∧
  PySem.W.kitOne K (.ref C) cv = some b ∧ Q (.bl b) H
theorem call_isX {X : Cx} {a C : Addr} {oe : Obj} {cls : Value} {d : Option Addr} {pn : List (Addr × Obj)} (T : ExcC X.K C) (hz : Zc cls d oe) (hf : ∃ vs, oe.data = .fields vs) : CallR (X.suite a ((a, oe) :: pn)) (.builtin "isinstance") (rIsX X.K a cls d C) := by
  rintro pins s σ H xs us Q I r ⟨rfl, dd, fs, c, cv, b, rfl, eH, rfl, hcv, hk, q⟩
  cases r with
  | cons r1 rr =>
    cases rr with
    | cons r2 rr =>
      cases rr
      cases r1
      obtain rfl := hcv _ r2
      obtain ⟨live, _⟩ := I.pin (a, oe) (List.mem_append_left _ List.mem_cons_self)
      obtain ⟨vs, hv⟩ := hf
      have there : ObjOk X.prog X.w H s.heap dd (.xd fs) := I.hok dd _ eH
      obtain ⟨mA, ns, _⟩ := there
      obtain ⟨od, hod, _⟩ := lookIn_ns ns
      have J : PySem.W.InstAt s.heap a oe C (some od) := ⟨live, hz.1, by unfold PySem.W.notCls; rw [hv] <;> rfl, by rw [hz.2]; exact hod⟩
      have cl : (PySem.W.clsIn X.K C).isSome = true := by
        obtain ⟨cd, hc, _⟩ := PySem.W.any_some T.hd
        rw [hc]
        rfl
      exact PySem.W.kia_one (PySem.W.kitx_exc cl T.hg T.hk T.hs T.ha T.hn T.ht T.hm) I.kIn J hk (fun z => nomatch z) fun tk => ⟨.bl b, H, I.kept (t' := tk) fun _ _ z => z, rfl, q⟩
/-! ### C(..) and o.m(..) in a body whose errors are caught -/
/-- a new object of the class at C, its errors at the slots -/
def tMakeAt (C : Addr) (sp : Sp) (E : L2.St → XK) (t : TA) : TE := fun σ H Q => t σ H fun vs H1 => ∀ x dx, H1 x = none → H1 dx = none → dx ≠ x →
  sp (.ref x :: vs) (upd (upd H1 dx (.own x)) x (.ins C dx [])) (fun v H2 => v = .non ∧ Q (.ref x) H2) (E σ)
def tMethAt (C : Addr) (m : Str) (sp : Sp) (E : L2.St → XK) (ta : TE) (t : TA) : TE := fun σ H Q => ta σ H fun x H1 => ∃ a dx fs, x = .ref a ∧ H1 a = some (.ins C dx fs) ∧ fs.lookup m = none ∧ t σ H1 fun vs H2 => sp (x :: vs) H2 Q (E σ)
section
variable {X : Cx} {CX : CXT} {k : Nat} {f C : Addr} {fd : FuncData} {ps : List Str} {sp : Sp} {E : L2.St → XK} {x m : Str} {p pos apos : Pos} {e o : Expr} {es : List Expr} {ta : TE} {t : TA}
theorem run_makeAt {pins : List (Addr × Obj)} {σ : L2.St} {H : Hp} {s : Shared} {Q : VK} {us : List Value} {vs : List V} (M : Mk X.K C f) (F : FnOk X.prog X.w X.K X.mg X.base CX k f fd ps sp) (room : Room (k + 1) X.A) (bd : Binds X.K fd ps []) (go : PassesAt CX X σ (E σ))
    (I : Inv X pins σ H s) (r : Vals vs us) (want : ∀ x dx, H x = none → H dx = none → dx ≠ x → sp (.ref x :: vs) (upd (upd H dx (.own x)) x (.ins C dx [])) (fun v H2 => v = .non ∧ Q (.ref x) H2) (E σ)) :
    wpAny (model X.prog X.w) X.A (call (.ref C) us) (EP X pins σ Q) X.xe s := by
  let n := s.heap.objs.size
  have now := want (n + 1) n (I.hok.fresh (Nat.le_succ _)) (I.hok.fresh (Nat.le_refl _)) (Nat.ne_of_lt (Nat.lt_succ_self _))
  have J := Inv.made (C := C) I
  have both : Vals (V.ref (n + 1) :: vs) (Value.ref (n + 1) :: us) := .cons rfl r
  have many : ((Value.ref (n + 1) :: us) ++ []).length = ps.length := by
    rw [List.append_nil, ← both.length]
    exact F.len _ _ _ _ now
  have bt := bd _ (Value.ref (n + 1) :: us) J.kIn many
  rw [List.append_nil] at bt
  have ran := F.run _ X.stack _ _ ⟨Value.ref (n + 1) :: us, []⟩ (Value.ref (n + 1) :: us) _ _ (E σ) (room.make C us []) (J.env0.make C us []) bt both now
  refine wpAny_call (make_map (f := f) I.kIn M.makes M.init (beq_iff_eq.mp M.fn) (codeAny_mono ran fun res s' end_ => ?_))
  match res, end_ with
  | .error e, end_ => exact go pins _ _ e s' J end_
  | .ok (.ret u), end_ =>
    obtain ⟨v, H', L, rv, rfl, q3⟩ := J.after end_
    exact ⟨rv, V.ref (n + 1), H', L, rfl, q3⟩
  | .ok .next, end_ => exact False.elim end_
  | .ok .brk, end_ => exact False.elim end_
  | .ok .cont, end_ => exact False.elim end_
theorem pe_makeAt (M : Mk X.K C f) (F : FnOk X.prog X.w X.K X.mg X.base CX k f fd ps sp) (room : Room (k + 1) X.A) (hg : Gl X x) (hm : X.mg x = some (.ref C)) (bd : Binds X.K fd ps []) (go : ∀ σ, PassesAt CX X σ (E σ))
    (ha : PA X (e :: es) t) (hdb : (x == ("__debug__" : Str)) = false := by decide) (he : starEach (e :: es) X.env = (false, eval e X.env) :: starEach es X.env := by rfl) (hpl : (backTo pos (starEach es X.env)).any (·.1) = false := by rfl) :
    PE X (.Call (.Name x p) (e :: es) [] pos) (tMakeAt C sp E t) :=
  ⟨fun pins s σ H Q I want => wpAny_Call_Name_kw (ld_glob I hg hm (PySem.W.callWith_K (h₀ := X.base) I.ok.mod.kin M.kp (thn (ha.run pos pins s σ H _ I want) fun us s1 ⟨vs, H1, J, r, q⟩ => ⟨J.kIn, run_makeAt M F room bd (go σ) J r q⟩) he hpl) hdb)⟩
theorem pe_methAt {pl : Sem Bool} (he : PE X o ta) (c : Cls X.K C) (hm : Meth X.K C m f) (F : FnOk X.prog X.w X.K X.mg X.base CX k f fd ps sp) (room : Room k X.A) (bd : Binds X.K fd ps []) (go : ∀ σ, PassesAt CX X σ (E σ)) (ha : PA X (e :: es) t)
    (hst : starEach (e :: es) X.env = (false, eval e X.env) :: starEach es X.env := by rfl) (hpl : (backTo pos (starEach es X.env)).any (·.1) = false := by rfl)
    (ht : eval (.Call (.Attribute o m apos) (e :: es) [] pos) X.env = (eval o X.env >>= fun ov => standAt apos.atName >>= fun _ => holding [ov] (getMethod ov m pl) >>= fun q => callWith pos q.1 q.2 (backTo pos (starEach (e :: es) X.env)) (backToKw pos (keywordEach [] X.env))) := by rfl) :
    PE X (.Call (.Attribute o m apos) (e :: es) [] pos) (tMethAt C m sp E ta t) := by
  refine ⟨fun pins s σ H Q I want => PySem.W.methodCall_KW (pl := pl) (thn (he.run pins s σ H _ I want) fun u s1 ⟨y, H1, J, ry, rest⟩ => ?_) ht⟩
  obtain ⟨a, dx, fs, rfl, ea, l, q⟩ := rest
  cases ry
  refine getmeth_ok J ea c hm l (PySem.W.callWith_K (first := [.ref a]) (h₀ := X.base) J.ok.mod.kin hm.kp (thn (ha.run pos pins s1 σ H1 _ J q) fun us s2 ⟨vs, H2, L, r, q2⟩ => ⟨L.kIn, ?_⟩) hst hpl)
  exact run_fnS (us := .ref a :: us) (vs := .ref a :: vs) F room bd (go σ) L (.cons rfl r) q2
end
/-! ### == by an own __eq__, either answer -/
def rEqO (C : Addr) (sp : Sp) : R2 := fun x y H Q => ∃ (a b dx dy : Addr) (fs gs : List (Str × V)), x = .ref a ∧ y = .ref b ∧ H a = some (.ins C dx fs) ∧ H b = some (.ins C dy gs) ∧ sp [.ref a, .ref b] H (fun v H' => ∃ r, v = .bl r ∧ Q (.bl r) H') E0
theorem op_eqO {X : Cx} {k : Nat} {f C : Addr} {fd : FuncData} {ps : List Str} {sp : Sp} (F : FnOk X.prog X.w X.K X.mg X.base CX0 k f fd ps sp) (own : PySem.W.findIn X.K (.ref C) "__eq__" = some (some (.ref f))) (fun_ : PySem.W.isFn X.K (.ref f) = true)
    (bd : Binds X.K fd ps []) (room : Room k X.A) : OpR X (compareOp .Eq) (rEqO C sp) := by
  rintro pins s σ H x y v u Q I rx ry ⟨a, b, dx, dy, fs, gs, rfl, rfl, ea, eb, want⟩
  cases rx
  cases ry
  obtain ⟨_, ja, _⟩ := ins_get I.hok ea
  obtain ⟨_, jb, _⟩ := ins_get I.hok eb
  obtain ⟨_, la, _⟩ := ja.look
  obtain ⟨_, lb, _⟩ := jb.look
  obtain ⟨_, frs_⟩ := I.fr
  show wpAny _ _ (richCompare .Eq (.ref a) (.ref b)) _ _ _
  refine PySem.W.cmp_K (op := .Eq) (tb := .ref C) room.units0 frs_ I.ok.mod.kin la lb.type (by simp [PySem.W.notFirst]) own fun_ ?_
  refine wpAny_mono (run_fn (vs := [.ref a, .ref b]) (us := [.ref a, .ref b]) F room bd .nil pass0 I (.cons rfl (.cons rfl .nil)) want) (fun u s' got => ?_) fun _ _ z => z
  obtain ⟨v, H', J, rv, r, rfl, q⟩ := got
  cases rv
  exact ⟨.bl r, H', J, rfl, q⟩
end Td
/-! What a true run does. -/
namespace Td
open PySem PySem.Spec PyProof.Rows L2
abbrev Env := List (Str × Str)
def kv (L : Env) : List (Key × V) := L.map fun p => (.inr p.1, V.str p.2)
def getE (L : Env) (k : Str) : Option Str := (L.find? fun p => decide (p.1 = k)).map (·.2)
def putE (L : Env) (k v : Str) : Env := if (L.any fun p => decide (p.1 = k)) = true then L.map (fun p => if p.1 = k then (p.1, v) else p) else L ++ [(k, v)]
def sdE (L : Env) (k v : Str) : Env := if (getE L k).isSome = true then L else putE L k v
theorem kv_len (L : Env) : (kv L).length = L.length := List.length_map _
theorem inr_iff (a b : Str) : (Sum.inr a : Key) = .inr b ↔ a = b := ⟨fun h => Sum.inr.inj h, fun h => by rw [h]⟩
theorem kv_get (L : Env) (k : Str) : valV (kv L) (.inr k : Key) = (getE L k).map V.str := by
  unfold valV getE kv
  induction L with
  | nil => rfl
  | cons p r ih =>
    rw [List.map_cons, List.find?_cons, List.find?_cons]
    by_cases h : p.1 = k
    · simp [h]
    · have h2 : ¬ ((Sum.inr p.1 : Key) = .inr k) := fun e => h (Sum.inr.inj e)
      simp only [decide_eq_false h, decide_eq_false h2]
      exact ih
theorem kv_any (L : Env) (k : Str) : ((kv L).any fun q => decide (q.1 = (.inr k : Key))) = L.any fun p => decide (p.1 = k) := by
  unfold kv
  induction L with
  | nil => rfl
  | cons p r ih =>
    rw [List.map_cons, List.any_cons, List.any_cons, ih]
    congr 1
    exact decide_eq_decide.mpr (inr_iff _ _)
theorem kv_put (L : Env) (k v : Str) : putK (kv L) (.inr k : Key) (.str v) = kv (putE L k v) := by
  unfold putK putE
  rw [kv_any]
  by_cases h : (L.any fun p => decide (p.1 = k)) = true
  · rw [if_pos h, if_pos h]
    unfold kv
    rw [List.map_map, List.map_map]
    refine List.map_congr_left fun p _ => ?_
    show (if (Sum.inr p.1 : Key) = .inr k then _ else _) = _
    by_cases e : p.1 = k
    · have e2 : (Sum.inr p.1 : Key) = .inr k := by rw [e]
      rw [if_pos e2]
      show _ = ((Sum.inr (if p.1 = k then (p.1, v) else p).1 : Key), V.str (if p.1 = k then (p.1, v) else p).2)
      rw [if_pos e]
    · have e2 : ¬ (Sum.inr p.1 : Key) = .inr k := fun h => e (Sum.inr.inj h)
      rw [if_neg e2]
      show _ = ((Sum.inr (if p.1 = k then (p.1, v) else p).1 : Key), V.str (if p.1 = k then (p.1, v) else p).2)
      rw [if_neg e]
  · rw [if_neg h, if_neg h]
    unfold kv
    rw [List.map_append]
    rfl
theorem putE_len (L : Env) (k v : Str) : (putE L k v).length ≤ L.length + 1 := by
  unfold putE
  split
  · rw [List.length_map]; omega
  · rw [List.length_append]; exact Nat.le_refl _
theorem sdE_len (L : Env) (k v : Str) : (sdE L k v).length ≤ L.length + 1 := by
  unfold sdE
  split
  · omega
  · exact putE_len ..
theorem getE_any (k : Str) : ∀ L : Env, (L.any fun p => decide (p.1 = k)) = (getE L k).isSome
  | [] => rfl
  | p :: r => by
    rw [List.any_cons]
    unfold getE
    rw [List.find?_cons]
    by_cases e : p.1 = k
    · simp [e]
    · simp only [decide_eq_false e, Bool.false_or]
      exact getE_any k r
theorem getE_cons (p : Str × Str) (r : Env) (k : Str) : getE (p :: r) k = if p.1 = k then some p.2 else getE r k := by
  unfold getE
  rw [List.find?_cons]
  by_cases e : p.1 = k
  · simp [e]
  · simp [e]
theorem getE_put (L : Env) (k v j : Str) : getE (putE L k v) j = if j = k then some v else getE L j := by
  unfold putE
  split
  · rename_i h
    induction L with
    | nil => simp at h
    | cons p r ih =>
      rw [List.map_cons, getE_cons, getE_cons]
      by_cases e : p.1 = k
      · rw [if_pos e]
        by_cases ej : j = k
        · subst ej; simp [e]
        · have : ¬ p.1 = j := fun h => ej (by rw [← h, e])
          rw [if_neg this, if_neg this, if_neg ej]
          by_cases hr : (r.any fun p => decide (p.1 = k)) = true
          · rw [ih hr, if_neg ej]
          · have hr2 : r.map (fun p => if p.1 = k then (p.1, v) else p) = r := by
              conv => rhs; rw [← List.map_id r]
              refine List.map_congr_left fun q hq => ?_
              rw [if_neg]
              · rfl
              · intro e2
                exact hr (List.any_eq_true.mpr ⟨q, hq, decide_eq_true e2⟩)
            rw [hr2]
      · rw [if_neg e]
        have hr : (r.any fun p => decide (p.1 = k)) = true := by
          rw [List.any_cons, decide_eq_false e, Bool.false_or] at h
          exact h
        rw [ih hr]
        by_cases ej : p.1 = j
        · rw [if_pos ej, if_pos ej, if_neg (fun h => e (by rw [ej, h]))]
        · rw [if_neg ej, if_neg ej]
  · rename_i h
    have hn : getE L k = none := by
      rw [getE_any] at h
      cases e : getE L k with
      | none => rfl
      | some z => rw [e] at h; exact absurd rfl h
    induction L with
    | nil => rw [List.nil_append, getE_cons]; by_cases ej : j = k
             · subst ej; simp
             · rw [if_neg (fun e => ej e.symm), if_neg ej]
    | cons p r ih =>
      rw [List.cons_append, getE_cons, getE_cons]
      rw [getE_cons] at hn
      by_cases e : p.1 = k
      · rw [if_pos e] at hn; cases hn
      · rw [if_neg e] at hn
        have hr : ¬ (r.any fun p => decide (p.1 = k)) = true := by rw [getE_any, hn]; simp
        rw [ih hr hn]
        by_cases ej : p.1 = j
        · rw [if_pos ej, if_pos ej, if_neg (fun h => e (by rw [ej, h]))]
        · rw [if_neg ej, if_neg ej]
/-! ### a run -/
structure RS where
  slots : Env
  noted : Env
  peeked : Env
  said : List Str
  written : Env
  given : Str
def RS.word (st : RS) (d s : Str) : Str := (getE st.slots s).getD d
mutual
def runR (kn : Str → Str) (d : Str) : Row → RS → RS × Bool
  | .rd pk c s, st => ({ st with slots := putE st.slots s (kn c), noted := (if pk then st.noted else sdE st.noted c (kn c)), peeked := (if pk then sdE st.peeked c (kn c) else st.peeked) }, false)
  | .put s u, st => ({ st with slots := putE st.slots s u }, false)
  | .give s, st => ({ st with given := st.word d s }, true)
  | .say s, st => ({ st with said := st.said ++ [st.word d s] }, false)
  | .wr c s, st => ({ st with written := st.written ++ [(c, st.word d s)] }, false)
  | .ite s u y n, st => if st.word d s = u then runRs kn d y st else runRs kn d n st
def runRs (kn : Str → Str) (d : Str) : List Row → RS → RS × Bool
  | [], st => (st, false)
  | r :: rs, st => if (runR kn d r st).2 = true then ((runR kn d r st).1, true) else runRs kn d rs (runR kn d r st).1
end
theorem runRs_yes {kn : Str → Str} {d : Str} {r : Row} {st : RS} (rs : List Row) (h : (runR kn d r st).2 = true) : runRs kn d (r :: rs) st = ((runR kn d r st).1, true) := by simp only [runRs, if_pos h]
theorem runRs_no {kn : Str → Str} {d : Str} {r : Row} {st : RS} (rs : List Row) (h : ¬ (runR kn d r st).2 = true) : runRs kn d (r :: rs) st = runRs kn d rs (runR kn d r st).1 := by simp only [runRs, if_neg h]
theorem runRs_append (kn : Str → Str) (d : Str) : ∀ (rs ts : List Row) (st : RS), runRs kn d (rs ++ ts) st = if (runRs kn d rs st).2 = true then runRs kn d rs st else runRs kn d ts (runRs kn d rs st).1
  | [], ts, st => by
    show runRs kn d ts st = _
    simp [runRs]
  | r :: rs, ts, st => by
    show runRs kn d (r :: (rs ++ ts)) st = _
    by_cases h : (runR kn d r st).2 = true
    · simp only [runRs_yes _ h, if_true]
    · simp only [runRs_no _ h]
      exact runRs_append kn d rs ts _
theorem runRs_next {kn : Str → Str} {d : Str} {rs : List Row} {st : RS} {i : Nat} {r : Row} (h : rs[i]? = some r) (hf : (runRs kn d (rs.take i) st).2 = false) :
    runRs kn d (rs.take (i + 1)) st = runR kn d r (runRs kn d (rs.take i) st).1 := by
  rw [take_more h, runRs_append, hf]
  simp only [runRs, if_neg (Bool.false_ne_true)]
  by_cases h2 : (runR kn d r (runRs kn d (rs.take i) st).1).2 = true
  · rw [if_pos h2]
    exact Prod.ext rfl h2.symm
  · rw [if_neg h2]
    exact Prod.ext rfl (by simpa using h2)
theorem runRs_stop {kn : Str → Str} {d : Str} {rs : List Row} {st : RS} {i : Nat} {r : Row} (h : rs[i]? = some r) (hf : (runRs kn d (rs.take i) st).2 = false)
    (ht : (runR kn d r (runRs kn d (rs.take i) st).1).2 = true) : runRs kn d rs st = runR kn d r (runRs kn d (rs.take i) st).1 := by
  have e : rs = rs.take (i + 1) ++ rs.drop (i + 1) := (List.take_append_drop _ _).symm
  have e2 := runRs_next h hf
  rw [e, runRs_append, ← e, e2, if_pos ht]
/-- no list of the run is long -/
structure RS.Few (st : RS) (n : Nat) : Prop where
  sl : st.slots.length ≤ n
  no : st.noted.length ≤ n
  pe : st.peeked.length ≤ n
  sa : st.said.length ≤ n
  wr : st.written.length ≤ n
theorem RS.Few.mono {st : RS} {n m : Nat} (h : st.Few n) (l : n ≤ m) : st.Few m := ⟨Nat.le_trans h.sl l, Nat.le_trans h.no l, Nat.le_trans h.pe l, Nat.le_trans h.sa l, Nat.le_trans h.wr l⟩
mutual
theorem few_R (kn : Str → Str) (d : Str) : ∀ (r : Row) (st : RS) (n : Nat), st.Few n → (runR kn d r st).1.Few (n + Td.cnt r)
  | .rd pk c s, st, n, h => by
    have h1 := putE_len st.slots s (kn c)
    have h2 := sdE_len st.noted c (kn c)
    have h3 := sdE_len st.peeked c (kn c)
    have a := h.sl; have b := h.no; have c' := h.pe; have d' := h.sa; have e := h.wr
    cases pk <;> simp only [runR, Td.cnt] <;> refine ⟨?_, ?_, ?_, ?_, ?_⟩ <;> simp <;> omega
  | .put s u, st, n, h => by
    have h1 := putE_len st.slots s u
    have a := h.sl; have b := h.no; have c' := h.pe; have d' := h.sa; have e := h.wr
    simp only [runR, Td.cnt]; refine ⟨?_, ?_, ?_, ?_, ?_⟩ <;> simp <;> omega
  | .give s, st, n, h => by
    have a := h.sl; have b := h.no; have c' := h.pe; have d' := h.sa; have e := h.wr
    simp only [runR, Td.cnt]; refine ⟨?_, ?_, ?_, ?_, ?_⟩ <;> simp <;> omega
  | .say s, st, n, h => by
    have a := h.sl; have b := h.no; have c' := h.pe; have d' := h.sa; have e := h.wr
    simp only [runR, Td.cnt]; refine ⟨?_, ?_, ?_, ?_, ?_⟩ <;> simp <;> omega
  | .wr c s, st, n, h => by
    have a := h.sl; have b := h.no; have c' := h.pe; have d' := h.sa; have e := h.wr
    simp only [runR, Td.cnt]; refine ⟨?_, ?_, ?_, ?_, ?_⟩ <;> simp <;> omega
  | .ite s u y m, st, n, h => by
    simp only [runR, Td.cnt]
    split
    · exact (few_Rs kn d y st n h).mono (by omega)
    · exact (few_Rs kn d m st n h).mono (by omega)
theorem few_Rs (kn : Str → Str) (d : Str) : ∀ (rs : List Row) (st : RS) (n : Nat), st.Few n → (runRs kn d rs st).1.Few (n + cnts rs)
  | [], st, n, h => by simp only [runRs]; exact h.mono (Nat.le_add_right _ _)
  | r :: rs, st, n, h => by
    have h1 := few_R kn d r st n h
    simp only [runRs, cnts]
    split
    · exact h1.mono (by omega)
    · exact (few_Rs kn d rs _ _ h1).mono (by omega)
end
/-! ### the run's object -/
structure RA where
  ra : Addr
  kd : Addr
  ps : Addr
  pn : Addr
  pp : Addr
  pd : Addr
  pw : Addr
  d : Str
def RA.fldsV (A : RA) (v : V) : List (Str × V) := [("noted", .ref A.pn), ("peeked", .ref A.pp), ("said", .ref A.pd), ("written", .ref A.pw), ("given", v), ("default", .str A.d), ("known", .ref A.kd), ("slots", .ref A.ps)]
def RA.flds (A : RA) (g : Str) : List (Str × V) := A.fldsV (.str g)
def wrD (p : Str × Str) : PyData := .tuple [.str p.1, .str p.2]
structure RunAt (K : PySem.W.Frag) (C : Addr) (A : RA) (H0 H : Hp) (st : RS) : Prop where
  same : Same H0 H
  f0 : H0 A.ra = none
  f1 : H0 A.ps = none
  f2 : H0 A.pn = none
  f3 : H0 A.pp = none
  f4 : H0 A.pd = none
  f5 : H0 A.pw = none
  n1 : A.ps ≠ A.pn
  n2 : A.ps ≠ A.pp
  n3 : A.pn ≠ A.pp
  n4 : A.pd ≠ A.pw
  ob : ∃ dx, H A.ra = some (.ins C dx (A.flds st.given))
  sl : H A.ps = some (.dK (kv st.slots))
  no : H A.pn = some (.dK (kv st.noted))
  pe : H A.pp = some (.dK (kv st.peeked))
  sa : H A.pd = some (.lst (st.said.map V.str))
  wr : ∃ xs, H A.pw = some (.lst xs) ∧ TnAll K H xs (st.written.map wrD)
section
variable {K : PySem.W.Frag} {C : Addr} {A : RA} {H0 H H' : Hp} {st : RS}
theorem own_same {H0 H : Hp} {p : Addr} {o : HO} (k : Same H0 H) (h : H0 p = none) : Same H0 (upd H p o) := fun b u e => by
  rw [upd_ne (ne_of_none e h)]; exact k b u e
theorem RunAt.go (h : RunAt K C A H0 H st) (s : Same H H') : RunAt K C A H0 H' st := by
  obtain ⟨dx, e⟩ := h.ob
  obtain ⟨xs, e1, e2⟩ := h.wr
  exact ⟨h.same.trans s, h.f0, h.f1, h.f2, h.f3, h.f4, h.f5, h.n1, h.n2, h.n3, h.n4, ⟨dx, s _ _ e⟩, s _ _ h.sl, s _ _ h.no, s _ _ h.pe, s _ _ h.sa, ⟨xs, s _ _ e1, TnAll.keep (TK.of_same s) e2⟩⟩
theorem RunAt.slots (h : RunAt K C A H0 H st) (L : Env) : RunAt K C A H0 (upd H A.ps (.dK (kv L))) { st with slots := L } := by
  obtain ⟨dx, e⟩ := h.ob
  obtain ⟨xs, e1, e2⟩ := h.wr
  exact ⟨own_same h.same h.f1, h.f0, h.f1, h.f2, h.f3, h.f4, h.f5, h.n1, h.n2, h.n3, h.n4, ⟨dx, by rw [upd_ne (ne_of e h.sl (by intro z; cases z))]; exact e⟩, upd_same, by rw [upd_ne (Ne.symm h.n1)]; exact h.no, by rw [upd_ne (Ne.symm h.n2)]; exact h.pe,
    by rw [upd_ne (ne_of h.sa h.sl (by intro z; cases z))]; exact h.sa, ⟨xs, by rw [upd_ne (ne_of e1 h.sl (by intro z; cases z))]; exact e1, TnAll.keep (TK.upd (by rw [h.sl]; trivial)) e2⟩⟩
theorem RunAt.noted (h : RunAt K C A H0 H st) (L : Env) : RunAt K C A H0 (upd H A.pn (.dK (kv L))) { st with noted := L } := by
  obtain ⟨dx, e⟩ := h.ob
  obtain ⟨xs, e1, e2⟩ := h.wr
  exact ⟨own_same h.same h.f2, h.f0, h.f1, h.f2, h.f3, h.f4, h.f5, h.n1, h.n2, h.n3, h.n4, ⟨dx, by rw [upd_ne (ne_of e h.no (by intro z; cases z))]; exact e⟩, by rw [upd_ne h.n1]; exact h.sl, upd_same, by rw [upd_ne (Ne.symm h.n3)]; exact h.pe,
    by rw [upd_ne (ne_of h.sa h.no (by intro z; cases z))]; exact h.sa, ⟨xs, by rw [upd_ne (ne_of e1 h.no (by intro z; cases z))]; exact e1, TnAll.keep (TK.upd (by rw [h.no]; trivial)) e2⟩⟩
theorem RunAt.peeked (h : RunAt K C A H0 H st) (L : Env) : RunAt K C A H0 (upd H A.pp (.dK (kv L))) { st with peeked := L } := by
  obtain ⟨dx, e⟩ := h.ob
  obtain ⟨xs, e1, e2⟩ := h.wr
  exact ⟨own_same h.same h.f3, h.f0, h.f1, h.f2, h.f3, h.f4, h.f5, h.n1, h.n2, h.n3, h.n4, ⟨dx, by rw [upd_ne (ne_of e h.pe (by intro z; cases z))]; exact e⟩, by rw [upd_ne h.n2]; exact h.sl, by rw [upd_ne h.n3]; exact h.no, upd_same,
    by rw [upd_ne (ne_of h.sa h.pe (by intro z; cases z))]; exact h.sa, ⟨xs, by rw [upd_ne (ne_of e1 h.pe (by intro z; cases z))]; exact e1, TnAll.keep (TK.upd (by rw [h.pe]; trivial)) e2⟩⟩
theorem RunAt.say (h : RunAt K C A H0 H st) (L : List Str) : RunAt K C A H0 (upd H A.pd (.lst (L.map V.str))) { st with said := L } := by
  obtain ⟨dx, e⟩ := h.ob
  obtain ⟨xs, e1, e2⟩ := h.wr
  exact ⟨own_same h.same h.f4, h.f0, h.f1, h.f2, h.f3, h.f4, h.f5, h.n1, h.n2, h.n3, h.n4, ⟨dx, by rw [upd_ne (ne_of e h.sa (by intro z; cases z))]; exact e⟩, by rw [upd_ne (ne_of h.sl h.sa (by intro z; cases z))]; exact h.sl, by rw [upd_ne (ne_of h.no h.sa (by intro z; cases z))]; exact h.no,
    by rw [upd_ne (ne_of h.pe h.sa (by intro z; cases z))]; exact h.pe, upd_same, ⟨xs, by rw [upd_ne (Ne.symm h.n4)]; exact e1, TnAll.keep (TK.upd (by rw [h.sa]; trivial)) e2⟩⟩
theorem RunAt.write (h : RunAt K C A H0 H st) {xs : List V} {L : Env} (e1 : H A.pw = some (.lst xs)) {ys : List V} (e2 : TnAll K H ys (L.map wrD)) : RunAt K C A H0 (upd H A.pw (.lst ys)) { st with written := L } := by
  obtain ⟨dx, e⟩ := h.ob
  exact ⟨own_same h.same h.f5, h.f0, h.f1, h.f2, h.f3, h.f4, h.f5, h.n1, h.n2, h.n3, h.n4, ⟨dx, by rw [upd_ne (ne_of e e1 (by intro z; cases z))]; exact e⟩, by rw [upd_ne (ne_of h.sl e1 (by intro z; cases z))]; exact h.sl, by rw [upd_ne (ne_of h.no e1 (by intro z; cases z))]; exact h.no,
    by rw [upd_ne (ne_of h.pe e1 (by intro z; cases z))]; exact h.pe, by rw [upd_ne h.n4]; exact h.sa, ⟨ys, upd_same, TnAll.keep (TK.upd (by rw [e1]; trivial)) e2⟩⟩
theorem RunAt.give (h : RunAt K C A H0 H st) (g : Str) {dx : Addr} (e : H A.ra = some (.ins C dx (A.flds st.given))) : RunAt K C A H0 (upd H A.ra (.ins C dx (A.flds g))) { st with given := g } := by
  obtain ⟨xs, e1, e2⟩ := h.wr
  exact ⟨own_same h.same h.f0, h.f0, h.f1, h.f2, h.f3, h.f4, h.f5, h.n1, h.n2, h.n3, h.n4, ⟨dx, upd_same⟩, by rw [upd_ne (ne_of h.sl e (by intro z; cases z))]; exact h.sl, by rw [upd_ne (ne_of h.no e (by intro z; cases z))]; exact h.no,
    by rw [upd_ne (ne_of h.pe e (by intro z; cases z))]; exact h.pe, by rw [upd_ne (ne_of h.sa e (by intro z; cases z))]; exact h.sa, ⟨xs, by rw [upd_ne (ne_of e1 e (by intro z; cases z))]; exact e1, TnAll.keep (TK.upd (by rw [e]; trivial)) e2⟩⟩
end
section
variable (A : RA) (g g' : Str)
theorem fl_default : (A.flds g).lookup ("default" : Str) = some (.str A.d) := by kernel_rfl
theorem fl_known : (A.flds g).lookup ("known" : Str) = some (.ref A.kd) := by kernel_rfl
theorem fl_slots : (A.flds g).lookup ("slots" : Str) = some (.ref A.ps) := by kernel_rfl
theorem fl_noted : (A.flds g).lookup ("noted" : Str) = some (.ref A.pn) := by kernel_rfl
theorem fl_peeked : (A.flds g).lookup ("peeked" : Str) = some (.ref A.pp) := by kernel_rfl
theorem fl_said : (A.flds g).lookup ("said" : Str) = some (.ref A.pd) := by kernel_rfl
theorem fl_written : (A.flds g).lookup ("written" : Str) = some (.ref A.pw) := by kernel_rfl
theorem fl_given : (A.flds g).lookup ("given" : Str) = some (.str g) := by kernel_rfl
theorem fl_none : (A.flds g).lookup ("word_in" : Str) = none := by kernel_rfl
theorem fl_none2 (v : V) : (A.fldsV v).lookup ("parts" : Str) = none := by kernel_rfl
theorem fv_noted (v : V) : (A.fldsV v).lookup ("noted" : Str) = some (.ref A.pn) := by kernel_rfl
theorem fv_peeked (v : V) : (A.fldsV v).lookup ("peeked" : Str) = some (.ref A.pp) := by kernel_rfl
theorem fv_said (v : V) : (A.fldsV v).lookup ("said" : Str) = some (.ref A.pd) := by kernel_rfl
theorem fv_written (v : V) : (A.fldsV v).lookup ("written" : Str) = some (.ref A.pw) := by kernel_rfl
theorem fv_given (v : V) : (A.fldsV v).lookup ("given" : Str) = some v := by kernel_rfl
theorem fl_giveV (v : V) : putF "given" v (A.flds g) = A.fldsV v := by kernel_rfl
theorem fl_give : putF "given" (.str g') (A.flds g) = A.flds g' := by kernel_rfl
end
end Td
/-! == of two dicts that hold data. -/
namespace Td
open PySem PySem.Spec PyProof.Rows L2
/-- one dict's values against the other's -/
def hitsV (K : PySem.W.Frag) (H : Hp) (ls : List (Key × V)) : List (Key × V) → Bool → Prop
  | [], r => r = true
  | p :: ps, r => ∃ (u : V) (d e : PyData) (r' : Bool), valV ls p.1 = some u ∧ Dp K H p.2 d ∧ Dp K H u e ∧ d.canLay0 = true ∧ e.canLay0 = true ∧ d.depth ≤ 60 ∧ hitsV K H ls ps r' ∧ r = (PyData.eqv d e && r')
def rEqK (K : PySem.W.Frag) : R2 := fun x y H Q => ∃ (a b : Addr) (ks ls : List (Key × V)) (r : Bool), x = .ref a ∧ y = .ref b ∧ H a = some (.dK ks) ∧ H b = some (.dK ls) ∧ ks.length = ls.length ∧ hitsV K H ls ks r ∧ Q (.bl r) H
section
variable {X : Cx} {pins : List (Addr × Obj)} {σ : L2.St} {H : Hp} {s : Shared}
theorem hits_data (I : Inv X pins σ H s) {A : Around} (hu : A.units + 60 < cLine) {ls : List (Key × V)} {vb : List (Key × Value)} (rb : KV ls vb) : ∀ {ks : List (Key × V)} {va : List (Key × Value)} {r : Bool}, KV ks va → hitsV X.K H ls ks r → PySem.W.KeqHitsP X.prog X.w A s vb va r
  | [], _, r, .nil, h => by
    have h : r = true := h
    subst h
    exact .nil
  | p :: ps, _, r, .cons (b := q) h t, hp => by
    obtain ⟨u, d, e, r', e1, d1, d2, c1, c2, l, hr, rfl⟩ := hp
    obtain ⟨h1, h2⟩ := h
    have rr : RelO (some u) (valueAt vb p.1) := by rw [← e1]; exact rb.val p.1
    obtain ⟨y, hy, ry⟩ := rr.some_of
    obtain ⟨key, v⟩ := q
    have h1' : p.1 = key := h1
    rw [h1'] at hy
    obtain ⟨as, g1⟩ := Dp.reads I d p.2 v d1 h2
    obtain ⟨bs, g2⟩ := Dp.reads I e u y d2 ry
    exact .hit hy (SeqAt.EqAt.eqP (SeqAt.eqAt_reads d e A s v y as bs g1 g2 c1 c2 (by have := Nat.min_le_left d.depth e.depth; omega))) (hits_data I hu rb t hr)
theorem op_eqK (hu : X.A.units + 64 < cLine) : OpR X (compareOp .Eq) (rEqK X.K) := by
  intro pins s σ H x y v u Q I rx ry h
  obtain ⟨a, b, ks, ls, r, rfl, rfl, ea, eb, hl, hh, q⟩ := h
  obtain rfl : v = .ref a := rx
  obtain rfl : u = .ref b := ry
  obtain ⟨_, ya, va, ra, da⟩ := dk_of I.hok ea
  obtain ⟨_, yb, vb, rb, db⟩ := dk_of I.hok eb
  refine PySem.W.rcP_dicts (knd := mixKind X.prog X.w) (r := r) ya yb da db (by omega) (fun _ => hits_data I (A := X.A.in1) (by show X.A.units + 1 + 60 < cLine; omega) rb ra hh) _ _ ?_
  have e : (va.length == vb.length && r) = r := by
    have h1 : va.length = vb.length := by rw [← Paired.length ra, ← Paired.length rb, hl]
    rw [h1]; simp
  rw [e]
  exact ⟨.bl r, H, I, rfl, q⟩
end
/-! ### the data of an answer -/
theorem wr_eqv (p q : Str × Str) : PyData.eqv (wrD p) (wrD q) = decide (p = q) := by
  obtain ⟨a, b⟩ := p
  obtain ⟨c, d⟩ := q
  unfold wrD
  simp only [PyData.eqv, PyData.eqvAll, Prod.mk.injEq, Bool.and_true, Bool.decide_and]
  congr 1
theorem env_eqvAll : ∀ L M : Env, PyData.eqvAll (L.map wrD) (M.map wrD) = decide (L = M)
  | [], [] => rfl
  | [], _ :: _ => rfl
  | _ :: _, [] => rfl
  | p :: L, q :: M => by
    rw [List.map_cons, List.map_cons]
    simp only [PyData.eqvAll, wr_eqv, env_eqvAll L M, List.cons.injEq, Bool.decide_and]
theorem strs_eqvAll : ∀ L M : List Str, PyData.eqvAll (L.map PyData.str) (M.map PyData.str) = decide (L = M)
  | [], [] => rfl
  | [], _ :: _ => rfl
  | _ :: _, [] => rfl
  | p :: L, q :: M => by
    rw [List.map_cons, List.map_cons]
    simp only [PyData.eqvAll, PyData.eqv, strs_eqvAll L M, List.cons.injEq, Bool.decide_and]
    congr 1
theorem nm_ok {z : Str} (h : isNm z = true) : PyData.strOk z = true := by
  unfold isNm at h
  simp only [Bool.and_eq_true] at h
  have h2 := h.2
  unfold PyData.strOk
  rw [← Array.all_toList]
  rw [List.all_eq_true] at h2 ⊢
  intro c hc
  have := h2 c hc
  unfold lowc at this
  simp only [Bool.and_eq_true, decide_eq_true_eq] at this
  exact decide_eq_true (by omega)
theorem env_lay : ∀ L : Env, (∀ p ∈ L, isNm p.1 = true ∧ isNm p.2 = true) → PyData.canLayAll0 (L.map wrD) = true
  | [], _ => rfl
  | p :: L, h => by
    have h1 := h p List.mem_cons_self
    have h2 := env_lay L fun q hq => h q (List.mem_cons_of_mem _ hq)
    rw [List.map_cons]
    unfold wrD at h2 ⊢
    simp only [PyData.canLayAll0, PyData.canLay0, nm_ok h1.1, nm_ok h1.2, h2]
    rfl
theorem strs_lay : ∀ L : List Str, (∀ z ∈ L, isNm z = true) → PyData.canLayAll0 (L.map PyData.str) = true
  | [], _ => rfl
  | p :: L, h => by
    have h2 := strs_lay L fun q hq => h q (List.mem_cons_of_mem _ hq)
    rw [List.map_cons]
    simp only [PyData.canLayAll0, PyData.canLay0, nm_ok (h p List.mem_cons_self), h2]
    rfl
theorem env_deep : ∀ L : Env, PyData.depthAll (L.map wrD) ≤ 2
  | [] => by simp [PyData.depthAll]
  | p :: L => by
    rw [List.map_cons]
    unfold wrD
    have := env_deep L
    unfold wrD at this
    simp only [PyData.depthAll, PyData.depth]
    omega
theorem strs_deep : ∀ L : List Str, PyData.depthAll (L.map PyData.str) ≤ 2
  | [] => by simp [PyData.depthAll]
  | p :: L => by
    rw [List.map_cons]
    have := strs_deep L
    simp only [PyData.depthAll, PyData.depth]
    omega
/-! ### all that a run holds are names -/
structure RS.Nm (st : RS) : Prop where
  sl : ∀ p ∈ st.slots, isNm p.2 = true
  no : ∀ p ∈ st.noted, isNm p.1 = true ∧ isNm p.2 = true
  pe : ∀ p ∈ st.peeked, isNm p.1 = true ∧ isNm p.2 = true
  sa : ∀ z ∈ st.said, isNm z = true
  wr : ∀ p ∈ st.written, isNm p.1 = true ∧ isNm p.2 = true
  gi : isNm st.given = true
structure ScNm (S : Sc) (kn : Str → Str) : Prop where
  rd : ∀ c ∈ S.readable, isNm c = true ∧ isNm (kn c) = true
  so : ∀ c ∈ S.sources, isNm c = true
  wo : ∀ c ∈ S.words, isNm c = true
theorem put_mem {L : Env} {k v : Str} {p : Str × Str} (h : p ∈ putE L k v) : p ∈ L ∨ (p.1 = k ∧ p.2 = v) := by
  unfold putE at h
  split at h
  · obtain ⟨q, hq, e⟩ := List.mem_map.mp h
    split at e
    · rename_i e2
      subst e
      exact .inr ⟨e2, rfl⟩
    · subst e; exact .inl hq
  · rcases List.mem_append.mp h with h | h
    · exact .inl h
    · rw [List.mem_singleton] at h
      subst h
      exact .inr ⟨rfl, rfl⟩
theorem sd_mem {L : Env} {k v : Str} {p : Str × Str} (h : p ∈ sdE L k v) : p ∈ L ∨ (p.1 = k ∧ p.2 = v) := by
  unfold sdE at h
  split at h
  · exact .inl h
  · exact put_mem h
theorem get_has {L : Env} {k u : Str} (h : getE L k = some u) : ∃ p ∈ L, p.2 = u := by
  unfold getE at h
  obtain ⟨p, hp, e⟩ := Option.map_eq_some_iff.mp h
  exact ⟨p, List.mem_of_find?_eq_some hp, e⟩
theorem word_nm {st : RS} {d s : Str} (h : st.Nm) (hd : isNm d = true) : isNm (st.word d s) = true := by
  unfold RS.word
  cases e : getE st.slots s with
  | none => exact hd
  | some u =>
    obtain ⟨p, hp, rfl⟩ := get_has e
    exact h.sl p hp
mutual
theorem nm_R {S : Sc} {kn : Str → Str} {d : Str} (hS : ScNm S kn) (hd : isNm d = true) : ∀ (r : Row) (dep : Nat) (st : RS), okR S dep r → st.Nm → (runR kn d r st).1.Nm
  | .rd pk c s, dep, st, ok, h => by
    unfold okR at ok
    obtain ⟨c1, c2⟩ := hS.rd c ok.2.1
    have hs : ∀ p ∈ putE st.slots s (kn c), isNm p.2 = true := fun p hp => by
      rcases put_mem hp with q | ⟨_, e⟩
      · exact h.sl p q
      · rw [e]; exact c2
    have hg : ∀ L : Env, (∀ p ∈ L, isNm p.1 = true ∧ isNm p.2 = true) → ∀ p ∈ sdE L c (kn c), isNm p.1 = true ∧ isNm p.2 = true := fun L hL p hp => by
      rcases sd_mem hp with q | ⟨e1, e2⟩
      · exact hL p q
      · rw [e1, e2]; exact ⟨c1, c2⟩
    simp only [runR]
    cases pk
    · exact ⟨hs, hg _ h.no, h.pe, h.sa, h.wr, h.gi⟩
    · exact ⟨hs, h.no, hg _ h.pe, h.sa, h.wr, h.gi⟩
  | .put s u, dep, st, ok, h => by
    unfold okR at ok
    simp only [runR]
    refine ⟨fun p hp => ?_, h.no, h.pe, h.sa, h.wr, h.gi⟩
    rcases put_mem hp with q | ⟨_, e⟩
    · exact h.sl p q
    · rw [e]; exact hS.wo u ok.2
  | .give s, dep, st, ok, h => by
    simp only [runR]
    exact ⟨h.sl, h.no, h.pe, h.sa, h.wr, word_nm h hd⟩
  | .say s, dep, st, ok, h => by
    simp only [runR]
    refine ⟨h.sl, h.no, h.pe, fun z hz => ?_, h.wr, h.gi⟩
    rcases List.mem_append.mp hz with q | q
    · exact h.sa z q
    · rw [List.mem_singleton.mp q]; exact word_nm h hd
  | .wr c s, dep, st, ok, h => by
    unfold okR at ok
    simp only [runR]
    refine ⟨h.sl, h.no, h.pe, h.sa, fun p hp => ?_, h.gi⟩
    rcases List.mem_append.mp hp with q | q
    · exact h.wr p q
    · rw [List.mem_singleton.mp q]; exact ⟨hS.so c ok.2.1, word_nm h hd⟩
  | .ite s u y n, dep, st, ok, h => by
    unfold okR at ok
    simp only [runR]
    split
    · exact nm_Rs hS hd y (dep + 1) st ok.2.2.2.1 h
    · exact nm_Rs hS hd n (dep + 1) st ok.2.2.2.2 h
theorem nm_Rs {S : Sc} {kn : Str → Str} {d : Str} (hS : ScNm S kn) (hd : isNm d = true) : ∀ (rs : List Row) (dep : Nat) (st : RS), okRs S dep rs → st.Nm → (runRs kn d rs st).1.Nm
  | [], dep, st, ok, h => by simp only [runRs]; exact h
  | r :: rs, dep, st, ok, h => by
    unfold okRs at ok
    have h1 := nm_R hS hd r dep st ok.1 h
    by_cases hb : (runR kn d r st).2 = true
    · rw [runRs_yes _ hb]; exact h1
    · rw [runRs_no _ hb]; exact nm_Rs hS hd rs dep _ ok.2 h1
end
end Td
/-! A datum in a list of data. -/
namespace Td
open PySem PySem.Spec PyProof.Rows L2
def hasD (d : PyData) (ds : List PyData) : Bool := ds.any fun z => PyData.eqv z d
def rInDL (K : PySem.W.Frag) (neg : Bool) : R2 := fun x y H Q => ∃ d ds, Dp K H x d ∧ Dp K H y (.list ds) ∧ SeqAt.shaped d = true ∧ SeqAt.shaped (.list ds) = true ∧ Q (.bl (if neg then !hasD d ds else hasD d ds)) H
section
variable {X : Cx}
theorem op_inDL (hu : X.A.units + 65 < cLine) : OpR X (compareOp .In) (rInDL X.K false) := by
  intro pins s σ H x y v u Q I rx ry ⟨d, ds, h1, h2, e1, e2, q⟩
  obtain ⟨la, a⟩ := Dp.reads I d x v h1 rx
  obtain ⟨lb, b⟩ := Dp.reads I (.list ds) y u h2 ry
  exact SeqAt.in_list_reads b a (SeqAt.canLay_of_shaped e2) (SeqAt.canLay_of_shaped e1) (room_in_shaped e1 hu) ⟨.bl _, H, I, rfl, q⟩
theorem op_ninDL (hu : X.A.units + 65 < cLine) : OpR X (compareOp .NotIn) (rInDL X.K true) := by
  intro pins s σ H x y v u Q I rx ry ⟨d, ds, h1, h2, e1, e2, q⟩
  obtain ⟨la, a⟩ := Dp.reads I d x v h1 rx
  obtain ⟨lb, b⟩ := Dp.reads I (.list ds) y u h2 ry
  exact SeqAt.notIn_list_reads b a (SeqAt.canLay_of_shaped e2) (SeqAt.canLay_of_shaped e1) (room_in_shaped e1 hu) ⟨.bl _, H, I, rfl, q⟩
theorem op_ninDT (hu : X.A.units + 65 < cLine) : OpR X (compareOp .NotIn) (rInDT X.K true) := by
  intro pins s σ H x y v u Q I rx ry ⟨d, ds, h1, h2, e1, e2, q⟩
  obtain ⟨la, a⟩ := Dp.reads I d x v h1 rx
  obtain ⟨lb, b⟩ := Dp.reads I (.tuple ds) y u h2 ry
  exact SeqAt.notIn_tuple_reads b a (SeqAt.canLay_of_shaped e2) (SeqAt.canLay_of_shaped e1) (room_in_shaped e1 hu) ⟨.bl _, H, I, rfl, q⟩
end
end Td
/-! A dict whose only key is a tuple, written out. -/
namespace Td
open PySem PySem.Spec PyProof.Rows L2
def tDispT (tk tv : TE) : TE := fun σ H Q => ∀ p, H p = none → tk σ (upd H p (.dT [])) fun y H1 => tv σ H1 fun v H2 => H2 p = some (.dT []) ∧ ∃ (b : Addr) (k : List L2.Key), y = .ref b ∧ H2 b = some (.tup (k.map kV)) ∧ Q (.ref p) (upd H2 p (.dT [(k, v)]))
theorem pe_dispT {X : Cx} {pos : Pos} {k v : Expr} {tk tv : TE} (hu : X.A.units + 1 < cLine) (hk : PE X k tk) (hv : PE X v tv) : PE X (.Dict [some k] [v] pos) (tDispT tk tv) := by
  refine ⟨fun pins s σ H Q I q => ?_⟩
  have hn := I.hok.fresh (Nat.le_refl s.heap.objs.size)
  have I1 := I.laid (a := s.heap.objs.size) (o := .dT []) (h' := s.heap.push { cls := .type "dict", data := .dict #[] }) (t' := s.toks) (fun _ _ q => Heap.get?_push_of_some _ q) (Nat.le_refl _) (dt_empty s.heap I.big)
  rw [arm_eval_Dict, zip_pairTrees [some k] [v] X.env pos rfl rfl, dictDisplay_pairs _ (fun z => by cases z) (by show 1 < 17; decide)]
  refine wpAny_bind (wpAny_standAt (wpAny_bind ?_))
  refine wpAny_subDictH (knd := tupleKind (mixKind X.prog X.w)) (by show X.A.units < cLine; omega) (by show 1 ≤ 15; decide) ?_
  refine pairTrees_cons_walk (thn (hk.run pins _ σ _ _ I1 (q _ hn)) fun u s1 ⟨y, H1, I2, ry, q1⟩ => thn (hv.run pins s1 σ H1 _ I2 q1) fun w2 s2 ⟨z, H2, I3, rz, q2⟩ => pairTrees_nil_walk ?_)
  obtain ⟨e, b, ks, rfl, eb, q3⟩ := q2
  cases (show u = Value.ref b from ry)
  obtain ⟨_, hd, xs, rel, dd⟩ := dt_of I3.hok e
  cases rel
  refine ⟨[(ks, b, w2)], ⟨rfl, rfl, key_of I3.hok eb, trivial⟩, dd, fun h' tk' dd' hs => wpAny_pure ⟨.ref s.heap.objs.size, _, ?_, rfl, q3⟩⟩
  obtain ⟨o, es, ep, hq, h2, h3, h4, _, h5⟩ := dd'
  refine d_write I3 (by rw [e]; exact True.intro) hs ⟨o, hq⟩ ⟨by rw [sizeLine_eq]; show 1 ≤ _; omega, hd, _, .cons ⟨rfl, ?_, rz⟩ .nil, o, es, ep, hq, h2, h3, h4, h5⟩
  rw [upd_ne (ne_of eb e (fun z => nomatch z))]
  exact eb
end Td
namespace Td
open PySem PySem.Spec PyProof.Rows L2
theorem walk_range {lo : Int} {n : Nat} {B : (Hp → Prop) → V → Hp → Prop} {H0 : Hp} {End : Hp → Prop} (J : Nat → Hp → Prop) (start : J 0 H0) (turn : ∀ i H, i < n → J i H → B (J (i + 1)) (.int (lo + i)) H) (over : ∀ H, J n H → End H) :
    ∃ W : Nat → Nat → Hp → Prop, (∃ m, W 0 m H0) ∧ ∀ i m H, W i m H → ((Itr lo n).stop i H ∧ End H) ∨ ((Itr lo n).go i H ∧ ∃ Nx : Hp → Prop, (∀ H', Nx H' → ∃ m', m' < m ∧ W (i + 1) m' H') ∧ ∀ x H', (Itr lo n).yld i H x H' → B Nx x H') := by
  refine ⟨fun i m H => m = n - i ∧ i ≤ n ∧ J i H, ⟨n, by simp, Nat.zero_le _, start⟩, ?_⟩
  rintro i m H ⟨rfl, hi, p⟩
  by_cases hlt : i < n
  · refine .inr ⟨hlt, J (i + 1), fun H' p' => ⟨n - (i + 1), by omega, rfl, hlt, p'⟩, fun x H' y => ?_⟩
    obtain ⟨e, y⟩ := y
    subst e y
    exact turn i _ hlt p
  · have e : i = n := by omega
    subst e
    exact .inl ⟨Nat.le_refl _, over H p⟩
/-- rows of a kind, each a tuple of its own -/
def RowsG {α : Type} (f : α → V) (H : Hp) (xs : List V) (L : List (List α)) : Prop := xs.length = L.length ∧ ∀ (i : Nat) (r : List α), L[i]? = some r → ∃ b : Addr, xs[i]? = some (V.ref b) ∧ H b = some (.tup (r.map f))
section
variable {α : Type} {f : α → V}
theorem RowsG.nil {H : Hp} : RowsG f H [] [] := ⟨rfl, fun i r h => by simp at h⟩
theorem RowsG.append {H : Hp} {xs ys : List V} {L M : List (List α)} (h : RowsG f H xs L) (g : RowsG f H ys M) : RowsG f H (xs ++ ys) (L ++ M) := by
  refine ⟨by rw [List.length_append, List.length_append, h.1, g.1], fun i r e => ?_⟩
  by_cases hi : i < L.length
  · rw [List.getElem?_append_left hi] at e
    obtain ⟨b', e1, e2⟩ := h.2 i r e
    exact ⟨b', by rw [List.getElem?_append_left (by rw [h.1]; exact hi)]; exact e1, e2⟩
  · rw [List.getElem?_append_right (by omega)] at e
    obtain ⟨b', e1, e2⟩ := g.2 _ r e
    exact ⟨b', by rw [List.getElem?_append_right (by rw [h.1]; omega), h.1]; exact e1, e2⟩
theorem RowsG.one {H : Hp} {b : Addr} {r : List α} (hb : H b = some (.tup (r.map f))) : RowsG f H [.ref b] [r] := ⟨rfl, fun i r' e => by
  cases i with
  | zero => cases e; exact ⟨b, rfl, hb⟩
  | succ k => simp at e⟩
theorem RowsG.get {H : Hp} {xs : List V} {L : List (List α)} {i : Nat} {x : V} (h : RowsG f H xs L) (e : xs[i]? = some x) : ∃ r b, L[i]? = some r ∧ x = .ref b ∧ H b = some (.tup (r.map f)) := by
  have hi : i < L.length := by rw [← h.1]; exact (List.getElem?_eq_some_iff.mp e).1
  obtain ⟨b, e1, e2⟩ := h.2 i L[i] (List.getElem?_eq_getElem hi)
  rw [e1] at e
  exact ⟨L[i], b, List.getElem?_eq_getElem hi, (Option.some.inj e).symm, e2⟩
end
end Td
namespace Td
open PySem PySem.Spec PyProof.Rows L2
section
theorem ext_tup (l b : Addr) (items items2 : Array Value) (n : Nat) (hs0 : ¬(!items.isEmpty && Builtin.List.listTooLong (items.size + items2.size)) = true) (hs1 : items.size ≤ sizeLine) (hs3 : items2.size ≤ sizeLine) (hs2 : items.size + items2.size ≤ sizeLine + 1) :
    Meets (Builtin.«list.extend» ⟨[.ref l, .ref b], []⟩) (fun _ R s => s.heap.get? l = some { cls := .type "list", dict := none, data := .seq items n, slots := #[] } ∧ s.heap.IsTuple b items2 ∧ R (.ok (.ret Value.none)) { s with heap := s.heap.update l (Obj.mapSeq fun x => x ++ items2) }) :=
  .of_wp fun prog w A R s h => by
    obtain ⟨hl, ⟨o, ho, hc, n2, hd⟩, hR⟩ := h
    show wpAny _ _ (Builtin.List.listExtendWith (.ref l) (.ref b) .none) _ _ s
    unfold Builtin.List.listExtendWith
    refine wpAny_bind (wpAny_typeOf ⟨o, ho, hc⟩ ?_)
    have h1 : (Builtin.List.listSameRef (.ref l) (.ref b) || Value.type "tuple" == Value.type "list" || Value.type "tuple" == Value.type "tuple") = true := by simp
    simp only [h1, if_true]
    refine wpAny_bind ?_
    unfold Builtin.List.listItems
    refine wpAny_bind (wpAny_seqItems ho hd ?_)
    try refine wpAny_pure ?_
    refine wpAny_bind ?_
    refine wpAny_bind (wpAny_seqItems hl rfl ?_)
    try refine wpAny_pure ?_
    rw [if_neg hs0]
    have hz' : (items ++ items2).size ≤ sizeLine + 1 := by rw [Array.size_append]; exact hs2
    refine wpAny_bind (wpAny_updateSeq hl rfl ?_ (hz := hs1) (_hz' := hz'))
    exact wpAny_pure ⟨_, rfl, hR⟩
variable {X : Cx}
/-- l.extend(t), t a tuple -/
def rExtendT (K : PySem.W.Frag) : V → List V → Hp → VK → Prop := fun x vs H Q => ∃ l b xs zs, x = .ref l ∧ vs = [.ref b] ∧ H l = some (.lst xs) ∧ SqT K H b zs ∧ xs.length + zs.length ≤ sizeLine ∧ Q .non (upd H l (.lst (xs ++ zs)))
theorem mt_extendT : MtM X "list.extend" (rExtendT X.K) := by
  intro pins s σ H x vs v us Q I rx rv h
  obtain ⟨l, b, xs, zs, rfl, rfl, hH, hB, hz, q⟩ := h
  cases rx
  obtain ⟨u, rfl, ru⟩ := rv.one
  cases ru
  obtain ⟨z, its, n, r, hl, e⟩ := I.lstM hH
  obtain ⟨its2, r2, e2, hz2⟩ := I.tuple hB
  have hl2 := r2.length
  have hsz : its.toArray.size + its2.toArray.size ≤ sizeLine := by rw [List.size_toArray, List.size_toArray]; omega
  have hlong : ¬ (!its.toArray.isEmpty && Builtin.List.listTooLong (its.toArray.size + its2.toArray.size)) = true := by
    have e3 : Builtin.List.listTooLong (its.toArray.size + its2.toArray.size) = false := by
      unfold Builtin.List.listTooLong
      exact decide_eq_false (by have := sizeLine_eq; omega)
    rw [e3, Bool.and_false]
    exact Bool.false_ne_true
  refine call_meets F.slot_list_extend ⟨_, e, rfl⟩ F.entry_list_extend (F.args_list_extend_2 _ _)
    (ext_tup l b its.toArray its2.toArray n hlong (by rw [List.size_toArray]; omega) (by rw [List.size_toArray]; omega) (by omega)) ⟨e, e2, ?_⟩
  refine ⟨.non, _, I.lset (its' := its ++ its2) hH e (by simp) (r.append r2) ?_, rfl, q⟩
  rw [List.length_append]
  omega
end
end Td
namespace Td
open PySem PySem.Spec PyProof.Rows L2
section
variable {X : Cx}
theorem sw_trueD {kx vx : Expr} {gs : List Comprehension} {scope : Scope} {pos py : Pos} {y : Str} {l : Nat} {env : PySem.Env} (hk : env.scope.kind = .function) (hy : env.scope.names.lookup y = some .local) (hl : (py.line == pos.line) = true)
    (ha : (scope.names.any fun (n, k) => n == y && (k == .local || k == .cell)) = false) : swapsWith (.DictComp kx vx gs scope pos) (some (.Name y py)) l env = pure true := by
  have ky : env.kindOf y = some .local := hy
  have hb : env.blockKind = .function := by unfold Env.blockKind; rw [hk]; rfl
  unfold swapsWith
  simp only [hb, ky, ha, Expr.pos, hl]
  rfl
/-- y = {k: v for ..}, y a plain local name -/
theorem ps_setDc {i : Nat} {y : Str} {py : Pos} {kx vx tg iter : Expr} {ifs : List Expr} {scope : Scope} {own : List (Str × Nat)} {pos spos : Pos} {wi : TI} {g : TG} {tt : TT} {tk tv : TE} (hc : X.calm = true) (hN : X.N.Nodup) (hy : X.N[i]? = some y) (hyl : X.env.scope.names.lookup y = some .local)
    (hsw : swapsWith (.DictComp kx vx [⟨tg, iter, ifs, 0⟩] scope pos) (some (.Name y py)) spos.line X.env = pure true) (hi : PI X tg iter wi) (ok : BlkOk X.N X.env.scope scope own)
    (hg : ∀ (s : Shared) (H : Hp) (C : Addr) (cl : List (Str × Addr)) (fp : List Addr), PG (X.blk s H scope (compEnvC scope cl C X.env) fp) tg g) (ht : ∀ (s : Shared) (H : Hp) (C : Addr) (cl : List (Str × Addr)) (fp : List Addr), PTs (X.blk s H scope (compEnvC scope cl C X.env) fp) ifs tt)
    (hk : ∀ (s : Shared) (H : Hp) (C : Addr) (cl : List (Str × Addr)) (fp : List Addr), PE (X.blk s H scope (compEnvC scope cl C X.env) fp) kx tk)
    (he : ∀ (s : Shared) (H : Hp) (C : Addr) (cl : List (Str × Addr)) (fp : List Addr), PE (X.blk s H scope (compEnvC scope cl C X.env) fp) vx tv) (hs : ∀ x, foldedSetIterable iter X.env x = pure x := by intro _; rfl) :
    PS X (.Assign [.Name y py] (.DictComp kx vx [⟨tg, iter, ifs, 0⟩] scope pos) spos) (tAsg (tDc wi g tt tk tv (own.map (·.2))) (gName i)) := by
  refine ⟨fun pins s σ H D I h => ?_⟩
  rw [exec_Assign_Name_used _ _ _ _ hsw]
  refine wpAny_bind (wpAny_standAt (wpAny_bind ?_))
  show wpAny _ X.A (do let _ ← comprehension (.DictComp kx vx [⟨tg, iter, ifs, 0⟩] scope pos) scope X.env (firstIterPos [⟨tg, iter, ifs, 0⟩] pos) newDict false (eval iter X.env) (some (assign (.Name y py) X.env))) _ _ s
  have h : tDc wi g tt tk tv (own.map (·.2)) σ H (fun x H1 => gName i x σ H1 D.nx) := h
  refine wpAny_bind (thn (dc_core (Qf := fun _ s' => SP X pins D .next s') hc hN I hi ok hg ht hk he hs h fun L C s' m H' I' q hn f => ?_) fun _ s' hq => wpAny_pure (wpAny_pure hq))
  show wpAny _ _ (assign (.Name y py) X.env (.ref L)) _ _ _
  refine wpAny_assign_Name (store_ok2 (v := V.ref L) I' hN hy (.inl hyl) rfl (fun s2 I2 ⟨a, sb, ha⟩ => ?_) (.inr hyl))
  obtain ⟨f0, f1, f2, f3, f4, f5⟩ := f
  have haC : C ≠ a := by
    rcases ha with z | z
    · rw [z]; exact f1
    · exact fun e => f4 y a z e.symm
  refine ⟨m, hn.sameBut sb haC, fun h3 sb3 => ?_⟩
  exact ⟨_, H', I2.turned (t' := s2.toks) (fun b o hb e => (sb3.2 b hb).trans e) f0 f1 f3 f4 f5, q⟩
end
end Td
namespace Td
open PySem PySem.Spec PyProof.Rows L2
theorem walk_kT {d : Addr} {od : Obj} {kvs : List (List L2.Key × V)} {B : (Hp → Prop) → V → Hp → Prop} {H0 : Hp} {End : Hp → Prop} (J : Nat → Hp → Prop) (start : J 0 H0) (there : ∀ i H, i ≤ kvs.length → J i H → H d = some (.frz od (.dT kvs)))
    (turn : ∀ i k v q H, kvs[i]? = some (k, v) → J i H → H q = some (.tup (k.map kV)) → B (J (i + 1)) (.ref q) H) (over : ∀ H, J kvs.length H → End H) :
    ∃ W : Nat → Nat → Hp → Prop, (∃ m, W 0 m H0) ∧ ∀ i m H, W i m H → ((Itkt d od kvs).stop i H ∧ End H) ∨ ((Itkt d od kvs).go i H ∧ ∃ Nx : Hp → Prop, (∀ H', Nx H' → ∃ m', m' < m ∧ W (i + 1) m' H') ∧ ∀ x H', (Itkt d od kvs).yld i H x H' → B Nx x H') := by
  refine ⟨fun i m H => i ≤ kvs.length ∧ m + i = kvs.length ∧ J i H, ⟨kvs.length, Nat.zero_le _, rfl, start⟩, fun i m H ⟨le, em, j⟩ => ?_⟩
  have here := there i H le j
  rcases Nat.lt_or_eq_of_le le with lt | eq
  · refine .inr ⟨⟨here, lt⟩, J (i + 1), fun H' j' => ⟨m - 1, by omega, by omega, by omega, j'⟩, fun x H' y => ?_⟩
    obtain ⟨e1, k, v, q, e2, e3, e4⟩ := y
    cases e1
    subst e3
    exact turn i k v q H e2 j e4
  · refine .inl ⟨⟨here, by omega⟩, over H ?_⟩
    rw [← eq]; exact j
end Td
namespace Td
open PySem PySem.Spec PyProof.Rows L2
theorem for_kT {d : Addr} {od : Obj} {kvs : List (List L2.Key × V)} {g : TG} {tb : TS} {D : Ends} {σ : L2.St} {H : Hp} (Pv : Nat → L2.St → Hp → Prop) (h0 : Pv 0 σ H) (there : ∀ i σ H, i ≤ kvs.length → Pv i σ H → H d = some (.frz od (.dT kvs)))
    (hs : ∀ i k v b σ H, kvs[i]? = some (k, v) → Pv i σ H → H b = some (.tup (k.map kV)) → g (.ref b) σ H fun σ2 H2 => tb { D with nx := Pv (i + 1), ct := Pv (i + 1), bk := D.nx } σ2 H2) (hd : ∀ σ H, Pv kvs.length σ H → D.nx σ H) :
    ∃ W : Nat → Nat → L2.St → Hp → Prop, (∃ m, W 0 m σ H) ∧ ∀ i m σ H, W i m σ H →
      ((Itkt d od kvs).stop i H ∧ D.nx σ H) ∨ ((Itkt d od kvs).go i H ∧ ∃ N : L2.St → Hp → Prop, (∀ σ' H', N σ' H' → ∃ m', m' < m ∧ W (i + 1) m' σ' H') ∧ ∀ x H', (Itkt d od kvs).yld i H x H' → g x σ H' fun σ2 H2 => tb { D with nx := N, ct := N, bk := D.nx } σ2 H2) := by
  refine ⟨fun i m σ H => m + i = kvs.length ∧ i ≤ kvs.length ∧ Pv i σ H, ⟨kvs.length, rfl, Nat.zero_le _, h0⟩, ?_⟩
  rintro i m σ H ⟨em, hi, p⟩
  have here := there i σ H hi p
  rcases Nat.lt_or_eq_of_le hi with lt | eq
  · refine .inr ⟨⟨here, lt⟩, Pv (i + 1), fun σ' H' p' => ⟨m - 1, by omega, by omega, by omega, p'⟩, fun x H' y => ?_⟩
    obtain ⟨e1, k, v, q, e2, e3, e4⟩ := y
    cases e1
    subst e3
    exact hs i k v q σ H e2 p e4
  · subst eq
    exact .inl ⟨⟨here, Nat.le_refl _⟩, hd σ H p⟩
end Td
/-! Walks of a comprehension with two iterables: the body stays unread. -/
namespace Td
open PySem PySem.Spec PyProof.Rows L2
section
variable {K : PySem.W.Frag} {a : Addr} {us : List V} {B : (Hp → Prop) → V → Hp → Prop} {H0 : Hp} {End : Hp → Prop}
theorem walk_list (J : Nat → Hp → Prop) (start : J 0 H0) (there : ∀ i H, i ≤ us.length → J i H → SqL K H a us) (turn : ∀ i x H, us[i]? = some x → J i H → B (J (i + 1)) x H) (over : ∀ H, J us.length H → End H) :
    ∃ W : Nat → Nat → Hp → Prop, (∃ m, W 0 m H0) ∧ ∀ i m H, W i m H → ((Itl K a).stop i H ∧ End H) ∨ ((Itl K a).go i H ∧ ∃ Nx : Hp → Prop, (∀ H', Nx H' → ∃ m', m' < m ∧ W (i + 1) m' H') ∧ ∀ x H', (Itl K a).yld i H x H' → B Nx x H') := by
  refine ⟨fun i m H => i ≤ us.length ∧ m + i = us.length ∧ J i H, ⟨us.length, Nat.zero_le _, rfl, start⟩, fun i m H ⟨le, em, j⟩ => ?_⟩
  have here := there i H le j
  rcases Nat.lt_or_eq_of_le le with lt | eq
  · exact .inr ⟨⟨us, us[i], here, List.getElem?_eq_getElem lt⟩, J (i + 1), fun H' j' => ⟨m - 1, by omega, by omega, by omega, j'⟩, fun x H' y => by
      cases y.1
      exact turn i x H (y.2 us here) j⟩
  · refine .inl ⟨⟨us, here, by omega⟩, over H ?_⟩
    rw [← eq]; exact j
theorem walk_tup (J : Nat → Hp → Prop) (start : J 0 H0) (there : ∀ i H, i ≤ us.length → J i H → SqT K H a us) (turn : ∀ i x H, us[i]? = some x → J i H → B (J (i + 1)) x H) (over : ∀ H, J us.length H → End H) :
    ∃ W : Nat → Nat → Hp → Prop, (∃ m, W 0 m H0) ∧ ∀ i m H, W i m H → ((Itt K a).stop i H ∧ End H) ∨ ((Itt K a).go i H ∧ ∃ Nx : Hp → Prop, (∀ H', Nx H' → ∃ m', m' < m ∧ W (i + 1) m' H') ∧ ∀ x H', (Itt K a).yld i H x H' → B Nx x H') := by
  refine ⟨fun i m H => i ≤ us.length ∧ m + i = us.length ∧ J i H, ⟨us.length, Nat.zero_le _, rfl, start⟩, fun i m H ⟨le, em, j⟩ => ?_⟩
  have here := there i H le j
  rcases Nat.lt_or_eq_of_le le with lt | eq
  · exact .inr ⟨⟨us, us[i], here, List.getElem?_eq_getElem lt⟩, J (i + 1), fun H' j' => ⟨m - 1, by omega, by omega, by omega, j'⟩, fun x H' y => by
      cases y.1
      exact turn i x H (y.2 us here) j⟩
  · refine .inl ⟨⟨us, here, by omega⟩, over H ?_⟩
    rw [← eq]; exact j
end
end Td
/-! A walk over enumerate(t): the body stays unread. -/
namespace Td
open PySem PySem.Spec PyProof.Rows L2
theorem walk_enumT {K : PySem.W.Frag} {a : Addr} {us : List V} {B : (Hp → Prop) → V → Hp → Prop} {H0 : Hp} {End : Hp → Prop} (J : Nat → Hp → Prop) (start : J 0 H0) (there : ∀ i H, i ≤ us.length → J i H → SqT K H a us)
    (turn : ∀ (i : Nat) (x : V) (H : Hp) (t : Addr), us[i]? = some x → J i H → H t = none → B (J (i + 1)) (.ref t) (upd H t (.tup [.int (i : Nat), x]))) (over : ∀ H, J us.length H → End H) :
    ∃ W : Nat → Nat → Hp → Prop, (∃ m, W 0 m H0) ∧ ∀ i m H, W i m H → ((IteT K a).stop i H ∧ End H) ∨ ((IteT K a).go i H ∧ ∃ Nx : Hp → Prop, (∀ H', Nx H' → ∃ m', m' < m ∧ W (i + 1) m' H') ∧ ∀ x H', (IteT K a).yld i H x H' → B Nx x H') := by
  refine ⟨fun i m H => i ≤ us.length ∧ m + i = us.length ∧ J i H, ⟨us.length, Nat.zero_le _, rfl, start⟩, fun i m H ⟨le, em, j⟩ => ?_⟩
  have here := there i H le j
  rcases Nat.lt_or_eq_of_le le with lt | eq
  · refine .inr ⟨⟨us, us[i], here, List.getElem?_eq_getElem lt⟩, J (i + 1), fun H' j' => ⟨m - 1, by omega, by omega, by omega, j'⟩, fun x H' y => ?_⟩
    obtain ⟨T, u, ex, hT, eH, hu⟩ := y
    subst ex
    subst eH
    exact turn i u H T (hu us here) j hT
  · refine .inl ⟨⟨us, here, by omega⟩, over H ?_⟩
    rw [← eq]; exact j
end Td
/-! A list comprehension over three iterables, no tests: loops level by level. -/
namespace Td
open PySem PySem.Spec PyProof.Rows L2
/-- a turn of clause k, another clause behind it; a turn of the last clause -/
def OuterEq (C : Expr) (k : Nat) (t i inx : Expr) : Prop := ∀ (it acc : Value) (env : PySem.Env), compTurn C k it acc env = (do
  standAt i.pos
  match ← pyNext it with
  | none => pure (.done .next)
  | some v =>
    letOwnedTupleGo t it v
    assign t env v
    let x ← eval inx env
    standAt inx.pos
    let x ← foldedSetIterable inx env x
    let _ ← runOwn (.compStart C (k + 1) (← holding [x] (pyIter x)) acc env) env
    again (.compLoop C k it acc env))
def InnerEq (C : Expr) (k : Nat) (t i elt : Expr) : Prop := ∀ (it acc : Value) (env : PySem.Env), compTurn C k it acc env = (do
  standAt i.pos
  match ← pyNext it with
  | none => pure (.done .next)
  | some v =>
    letOwnedTupleGo t it v
    assign t env v
    (do let _ ← call (.builtin "list.append") [acc, ← eval elt env])
    again (.compLoop C k it acc env))
abbrev C3 (elt t0 i0 t1 i1 t2 i2 : Expr) (scope : Scope) (pos : Pos) : Expr := .ListComp elt [⟨t0, i0, [], 0⟩, ⟨t1, i1, [], 0⟩, ⟨t2, i2, [], 0⟩] scope pos
section
variable {elt t0 i0 t1 i1 t2 i2 : Expr} {scope : Scope} {pos : Pos}
theorem eq0 : OuterEq (C3 elt t0 i0 t1 i1 t2 i2 scope pos) 0 t0 i0 i1 := fun _ _ _ => rfl
theorem eq1 : OuterEq (C3 elt t0 i0 t1 i1 t2 i2 scope pos) 1 t1 i1 i2 := fun _ _ _ => rfl
theorem eq2 : InnerEq (C3 elt t0 i0 t1 i1 t2 i2 scope pos) 2 t2 i2 elt := fun _ _ _ => rfl
end
abbrev Fls : Value → Shared → Prop := fun _ _ => False
section
variable {prog : Program} {w : World} {A : Around} {R : Result → Shared → Prop} {s : Shared} {elt t0 i0 t1 i1 t2 i2 : Expr} {scope : Scope} {pos : Pos} {it acc : Value} {env : PySem.Env}
def RestO (prog : Program) (w : World) (A : Around) (C inx : Expr) (k : Nat) (acc : Value) (env : PySem.Env) (G : Shared → Prop) (s : Shared) : Prop :=
  wpAny (model prog w) A (eval inx env) (fun x s₄ => wpAny (model prog w) A (pyIter x) (fun it1 s₅ => codeAny (model prog w) A (.compStart C (k + 1) it1 acc env) (fun r s' => match r with
    | .ok _ => G s'
    | .error _ => False) s₅) Fls s₄) Fls s
def RestI (prog : Program) (w : World) (A : Around) (elt : Expr) (acc : Value) (env : PySem.Env) (G : Shared → Prop) (s : Shared) : Prop :=
  wpAny (model prog w) A (eval elt env) (fun x s₄ => wpAny (model prog w) A (call (.builtin "list.append") [acc, x]) (fun _ s₅ => G s₅) Fls s₄) Fls s
def TurnOf (prog : Program) (w : World) (A : Around) (R : Result → Shared → Prop) (t : Expr) (it : Value) (env : PySem.Env) (Rest : (Shared → Prop) → Shared → Prop) (J : Nat → Shared → Prop) : Prop :=
  ∀ n s, J n s → wpAny (model prog w) A (pyNext it) (fun r s₁ => match r with
    | none => R (.ok .next) s₁
    | some v => wpAny (model prog w) A (letOwnedTupleGo t it v) (fun _ s₂ => wpAny (model prog w) A (assign t env v) (fun _ s₃ => Rest (fun s' => ∃ m, m < n ∧ J m s') s₃) Fls s₂) Fls s₁) Fls s
theorem loop0 (hs : ∀ x, foldedSetIterable i1 env x = pure x) (J : Nat → Shared → Prop) (turn : TurnOf prog w A R t0 it env (RestO prog w A (C3 elt t0 i0 t1 i1 t2 i2 scope pos) i1 0 acc env) J) (n : Nat) (h : J n s) :
    codeAny (model prog w) A (.compLoop (C3 elt t0 i0 t1 i1 t2 i2 scope pos) 0 it acc env) R s := by
  refine codeAny_loop rfl J (fun n s hI => ?_) n h
  show wpAny _ A ((compTurn (C3 elt t0 i0 t1 i1 t2 i2 scope pos) 0 it acc env).onRaise (fun x => do noteFrame x env; theTreesLotGoes x)) _ _ s
  refine wpAny_noted ?_
  rw [eq0]
  refine wpAny_bind (wpAny_standAt (wpAny_bind (wpAny_mono (turn n s hI) (fun r s₁ h₁ => ?_) fun _ _ h' => h'.elim)))
  cases r with
  | none => exact wpAny_pure h₁
  | some v =>
    refine wpAny_bind (wpAny_mono h₁ (fun _ s₂ h₂ => ?_) fun _ _ h' => h'.elim)
    refine wpAny_bind (wpAny_mono h₂ (fun _ s₃ h₃ => ?_) fun _ _ h' => h'.elim)
    refine wpAny_bind (wpAny_mono h₃ (fun x s₄ h₄ => ?_) fun _ _ h' => h'.elim)
    refine wpAny_bind (wpAny_standAt (wpAny_bind (wpAny_of_eq (hs x) (wpAny_bind (wpAny_holding (wpAny_mono h₄ (fun it1 s₅ h₅ => ?_) fun _ _ h' => h'.elim))))))
    refine wpAny_bind (wpAny_runOwn ?_)
    rw [Around.mark_none]
    refine codeAny_mono h₅ fun r s' hr => ?_
    cases r with
    | ok f =>
      first
        | exact wpAny_pure ⟨rfl, hr⟩
        | exact wpAny_bind (wpAny_pure (wpAny_pure ⟨rfl, hr⟩))
    | error e => exact hr.elim
theorem loop1 (hs : ∀ x, foldedSetIterable i2 env x = pure x) (J : Nat → Shared → Prop) (turn : TurnOf prog w A R t1 it env (RestO prog w A (C3 elt t0 i0 t1 i1 t2 i2 scope pos) i2 1 acc env) J) (n : Nat) (h : J n s) :
    codeAny (model prog w) A (.compLoop (C3 elt t0 i0 t1 i1 t2 i2 scope pos) 1 it acc env) R s := by
  refine codeAny_loop rfl J (fun n s hI => ?_) n h
  show wpAny _ A ((compTurn (C3 elt t0 i0 t1 i1 t2 i2 scope pos) 1 it acc env).onRaise (fun x => do noteFrame x env; theTreesLotGoes x)) _ _ s
  refine wpAny_noted ?_
  rw [eq1]
  refine wpAny_bind (wpAny_standAt (wpAny_bind (wpAny_mono (turn n s hI) (fun r s₁ h₁ => ?_) fun _ _ h' => h'.elim)))
  cases r with
  | none => exact wpAny_pure h₁
  | some v =>
    refine wpAny_bind (wpAny_mono h₁ (fun _ s₂ h₂ => ?_) fun _ _ h' => h'.elim)
    refine wpAny_bind (wpAny_mono h₂ (fun _ s₃ h₃ => ?_) fun _ _ h' => h'.elim)
    refine wpAny_bind (wpAny_mono h₃ (fun x s₄ h₄ => ?_) fun _ _ h' => h'.elim)
    refine wpAny_bind (wpAny_standAt (wpAny_bind (wpAny_of_eq (hs x) (wpAny_bind (wpAny_holding (wpAny_mono h₄ (fun it1 s₅ h₅ => ?_) fun _ _ h' => h'.elim))))))
    refine wpAny_bind (wpAny_runOwn ?_)
    rw [Around.mark_none]
    refine codeAny_mono h₅ fun r s' hr => ?_
    cases r with
    | ok f =>
      first
        | exact wpAny_pure ⟨rfl, hr⟩
        | exact wpAny_bind (wpAny_pure (wpAny_pure ⟨rfl, hr⟩))
    | error e => exact hr.elim
theorem loop2 (J : Nat → Shared → Prop) (turn : TurnOf prog w A R t2 it env (RestI prog w A elt acc env) J) (n : Nat) (h : J n s) :
    codeAny (model prog w) A (.compLoop (C3 elt t0 i0 t1 i1 t2 i2 scope pos) 2 it acc env) R s := by
  refine codeAny_loop rfl J (fun n s hI => ?_) n h
  show wpAny _ A ((compTurn (C3 elt t0 i0 t1 i1 t2 i2 scope pos) 2 it acc env).onRaise (fun x => do noteFrame x env; theTreesLotGoes x)) _ _ s
  refine wpAny_noted ?_
  rw [eq2]
  refine wpAny_bind (wpAny_standAt (wpAny_bind (wpAny_mono (turn n s hI) (fun r s₁ h₁ => ?_) fun _ _ h' => h'.elim)))
  cases r with
  | none => exact wpAny_pure h₁
  | some v =>
    refine wpAny_bind (wpAny_mono h₁ (fun _ s₂ h₂ => ?_) fun _ _ h' => h'.elim)
    refine wpAny_bind (wpAny_mono h₂ (fun _ s₃ h₃ => ?_) fun _ _ h' => h'.elim)
    exact wpAny_bind (wpAny_bind (wpAny_mono h₃ (fun x s₄ h₄ => wpAny_bind (wpAny_mono h₄ (fun _ s₅ h₅ => wpAny_pure (wpAny_pure ⟨rfl, h₅⟩)) fun _ _ h' => h'.elim)) fun _ _ h' => h'.elim))
end
section
variable {prog : Program} {w : World} {A : Around} {R : Result → Shared → Prop} {s : Shared} {elt t0 i0 t1 i1 t2 i2 : Expr} {scope : Scope} {pos : Pos} {it acc : Value} {env : PySem.Env}
/-- the start of a clause behind the first -/
theorem start1 (h0 : codeAny (model prog w) A (.compLoop (C3 elt t0 i0 t1 i1 t2 i2 scope pos) 1 it acc env) R s)
    (h : wpAny (model prog w) A (pyIter it) (fun it' s' => codeAny (model prog w) A (.compLoop (C3 elt t0 i0 t1 i1 t2 i2 scope pos) 1 it' acc env) R s') (notedBy (model prog w) A env fun x s' => R (.error x) s') s) :
    codeAny (model prog w) A (.compStart (C3 elt t0 i0 t1 i1 t2 i2 scope pos) 1 it acc env) R s := by
  refine codeAny_of_tree ?_
  show wpAny _ _ ((compStart (C3 elt t0 i0 t1 i1 t2 i2 scope pos) 1 it acc env).onRaise (fun x => do noteFrame x env; standAt theWindowsPlace)) _ _ s
  refine wpAny_notedAt ?_
  unfold compStart
  show wpAny _ _ (ask >>= _) _ _ s
  refine wpAny_bind (wpAny_askSetting (wpAny_ite ?_))
  split
  · first
      | exact wpAny_bind (wpAny_pure (wpAny_pure (And.intro rfl h0)))
      | exact wpAny_pure (And.intro rfl h0)
  · first
      | exact wpAny_bind (wpAny_rule (wpAny_bind (wpAny_standAt (wpAny_bind (wpAny_mono h (fun it' s' h' => wpAny_pure (And.intro rfl h')) fun _ _ x => x)))))
      | (refine wpAny_bind (wpAny_rule ?_); show wpAny _ _ (standAt i1.pos >>= _) _ _ s; exact wpAny_bind (wpAny_standAt (wpAny_bind (wpAny_mono h (fun it' s' h' => wpAny_pure (And.intro rfl h')) fun _ _ x => x))))
theorem start2 (h0 : codeAny (model prog w) A (.compLoop (C3 elt t0 i0 t1 i1 t2 i2 scope pos) 2 it acc env) R s)
    (h : wpAny (model prog w) A (pyIter it) (fun it' s' => codeAny (model prog w) A (.compLoop (C3 elt t0 i0 t1 i1 t2 i2 scope pos) 2 it' acc env) R s') (notedBy (model prog w) A env fun x s' => R (.error x) s') s) :
    codeAny (model prog w) A (.compStart (C3 elt t0 i0 t1 i1 t2 i2 scope pos) 2 it acc env) R s := by
  refine codeAny_of_tree ?_
  show wpAny _ _ ((compStart (C3 elt t0 i0 t1 i1 t2 i2 scope pos) 2 it acc env).onRaise (fun x => do noteFrame x env; standAt theWindowsPlace)) _ _ s
  refine wpAny_notedAt ?_
  unfold compStart
  show wpAny _ _ (ask >>= _) _ _ s
  refine wpAny_bind (wpAny_askSetting (wpAny_ite ?_))
  split
  · first
      | exact wpAny_bind (wpAny_pure (wpAny_pure (And.intro rfl h0)))
      | exact wpAny_pure (And.intro rfl h0)
  · first
      | exact wpAny_bind (wpAny_rule (wpAny_bind (wpAny_standAt (wpAny_bind (wpAny_mono h (fun it' s' h' => wpAny_pure (And.intro rfl h')) fun _ _ x => x)))))
      | (refine wpAny_bind (wpAny_rule ?_); show wpAny _ _ (standAt i2.pos >>= _) _ _ s; exact wpAny_bind (wpAny_standAt (wpAny_bind (wpAny_mono h (fun it' s' h' => wpAny_pure (And.intro rfl h')) fun _ _ x => x))))
end
section
variable {X : Cx} {s3 : Shared} {H3 : Hp} {scope : Scope} {ce : PySem.Env} {fp : List Addr}
/-- what a level's walk wants: B speaks of the rest of a turn -/
def tLev (wi : TI) (g : TG) (vs : List Nat) (B : L2.St → Hp → (Hp → Prop) → Prop) (Nx : Hp → Prop) : L2.St → Hp → Prop := fun σ H => wi σ H fun J H4 => ∃ W : Nat → Nat → Hp → Prop, (∃ m, W 0 m H4) ∧ ∀ j k H, W j k H →
  (J.stop j H ∧ Nx H) ∨ (J.go j H ∧ ∃ Nx1 : Hp → Prop, (∀ H', Nx1 H' → ∃ k', k' < k ∧ W (j + 1) k' H') ∧ ∀ x H', J.yld j H x H' → g x (wipe σ vs) H' fun σ3 H5 => wipe σ3 vs = wipe σ vs ∧ B σ3 H5 Nx1)
/-- a level's loop, from any place of its walk -/
theorem run_level (calm : X.calm = true) {C tg : Expr} {k : Nat} {acc : Value} {Rest : (Shared → Prop) → Shared → Prop} {g : TG} {B : L2.St → Hp → (Hp → Prop) → Prop} {vs : List Nat}
    (loop : ∀ {it : Value} {R : Result → Shared → Prop} {z : Shared} (Z : Nat → Shared → Prop), TurnOf X.prog X.w X.A R tg it ce Rest Z → ∀ n, Z n z → codeAny (model X.prog X.w) X.A (.compLoop C k it acc ce) R z)
    (target : PG (X.blk s3 H3 scope ce fp) tg g)
    (body : ∀ {ps : List (Addr × Obj)} {τ : L2.St} {G : Hp} {z : Shared} {Nx : Hp → Prop} {Y : Shared → Prop}, Inv (X.blk s3 H3 scope ce fp) ps τ G z → B τ G Nx →
      (∀ {τ' : L2.St} {z' : Shared} {G' : Hp}, Inv (X.blk s3 H3 scope ce fp) ps τ' G' z' → τ'.length = τ.length → (∀ (j : Nat) v, (wipe τ vs)[j]? = some (some v) → τ'[j]? = some (some v)) → Nx G' → Y z') → Rest Y z)
    {ps : List (Addr × Obj)} {τ : L2.St} {at_ : Addr} {fs : List Addr} {tn : Nat → Heap → Prop} {J : It} {W : Nat → Nat → Hp → Prop} {End : Hp → Prop} {R : Result → Shared → Prop} {z : Shared} (T : Turn X.prog X.w X.K tg J fs at_ tn)
    (fine : ∀ {G : Hp} {z : Shared}, Inv (X.blk s3 H3 scope ce fp) ps (wipe τ vs) G z → (∀ b ∈ fs, G b = none) → ∀ b ∈ fs, FpOk (X.blk s3 H3 scope ce fp) ps G b)
    (walk : ∀ j m G, W j m G → (J.stop j G ∧ End G) ∨ (J.go j G ∧ ∃ Nx : Hp → Prop, (∀ G', Nx G' → ∃ m', m' < m ∧ W (j + 1) m' G') ∧ ∀ x G', J.yld j G x G' → g x (wipe τ vs) G' fun τ2 G2 => wipe τ2 vs = wipe τ vs ∧ B τ2 G2 Nx))
    (leave : ∀ {G : Hp} {z : Shared}, Inv (X.blk s3 H3 scope ce fp) ps (wipe τ vs) G z → End G → R (.ok .next) z)
    (here : ∃ m G, Inv (X.blk s3 H3 scope ce fp) ps (wipe τ vs) G z ∧ tn 0 z.heap ∧ (∀ b ∈ fs, G b = none) ∧ W 0 m G) : codeAny (model X.prog X.w) X.A (.compLoop C k (.ref at_) acc ce) R z := by
  obtain ⟨m0, G0, a0, b0, c0, d0⟩ := here
  refine loop (fun m z => ∃ j G, Inv (X.blk s3 H3 scope ce fp) ps (wipe τ vs) G z ∧ tn j z.heap ∧ (∀ b ∈ fs, G b = none) ∧ W j m G) (fun m z1 ⟨j, G, a, b, c, d⟩ => ?_) m0 ⟨0, G0, a0, b0, c0, d0⟩
  rcases walk j m G d with ⟨halt, last⟩ | ⟨more, Nx, less, step⟩
  · exact thnF (T.done (X.blk s3 H3 scope ce fp) rfl rfl rfl calm j _ z1 _ G Fls a (fine a c) b halt) fun r z2 ⟨er, a2⟩ => by subst er; exact leave a2 last
  · refine thnF (T.item (X.blk s3 H3 scope ce fp) rfl rfl rfl calm j _ z1 _ G Fls a (fine a c) b more) fun r z2 ⟨u, er, came⟩ => ?_
    subst er
    refine thnF came fun _ z3 ⟨x, G3, a3, rx, hy, b3, c3⟩ => ?_
    refine thnF (target.run _ z3 _ G3 x u _ (a3.pinned (fine a3 c3) (T.obj _ _ b3)) rx (step x G3 hy)) fun _ z4 ⟨τ4, G4, a4, same, want⟩ => ?_
    refine body a4 want fun {τ5 z5 G5} a5 len known nx => ?_
    obtain ⟨m5, lt5, d5⟩ := less G5 nx
    have old : ∀ b ∈ fs, ∀ o, z3.heap.get? b = some o → z5.heap.get? b = some o ∧ G5 b = none := fun b hb o eo => by
      have p := a5.pin (b, o) (List.mem_append_right _ (List.mem_append_right _ (mem_pinsAt hb eo)))
      exact ⟨p.1, p.2.1⟩
    refine ⟨m5, lt5, j + 1, G5, a5.unpinned.weak ?_ (fun i v ev => known i v (by rw [same]; exact ev)), T.keep _ _ _ b3 fun b hb o eo => (old b hb o eo).1, fun b hb => ?_, d5⟩
    · have q := congrArg List.length same
      rw [wipe_length, wipe_length] at q
      rw [wipe_length, len, q]
    · obtain ⟨o, eo, _⟩ := T.obj _ _ b3 b hb
      exact (old b hb o eo).2
/-- a level behind the first: its source is read, then its loop -/
theorem lev (calm : X.calm = true) {C tg src : Expr} {k : Nat} {acc : Value} {Rest : (Shared → Prop) → Shared → Prop} {wi : TI} {g : TG} {B : L2.St → Hp → (Hp → Prop) → Prop} {vs : List Nat}
    (loop : ∀ {it : Value} {R : Result → Shared → Prop} {z : Shared} (Z : Nat → Shared → Prop), TurnOf X.prog X.w X.A R tg it ce Rest Z → ∀ n, Z n z → codeAny (model X.prog X.w) X.A (.compLoop C k it acc ce) R z)
    (start : ∀ {it : Value} {R : Result → Shared → Prop} {z : Shared}, codeAny (model X.prog X.w) X.A (.compLoop C k it acc ce) R z → wpAny (model X.prog X.w) X.A (pyIter it) (fun it' z' => codeAny (model X.prog X.w) X.A (.compLoop C k it' acc ce) R z') (notedBy (model X.prog X.w) X.A ce fun x z' => R (.error x) z') z →
      codeAny (model X.prog X.w) X.A (.compStart C k it acc ce) R z)
    (source : PI (X.blk s3 H3 scope ce fp) tg src wi) (target : PG (X.blk s3 H3 scope ce fp) tg g)
    (body : ∀ {ps : List (Addr × Obj)} {τ : L2.St} {G : Hp} {z : Shared} {Nx : Hp → Prop} {Y : Shared → Prop}, Inv (X.blk s3 H3 scope ce fp) ps τ G z → B τ G Nx →
      (∀ {τ' : L2.St} {z' : Shared} {G' : Hp}, Inv (X.blk s3 H3 scope ce fp) ps τ' G' z' → τ'.length = τ.length → (∀ (j : Nat) v, (wipe τ vs)[j]? = some (some v) → τ'[j]? = some (some v)) → Nx G' → Y z') → Rest Y z)
    {ps : List (Addr × Obj)} {τ : L2.St} {G : Hp} {z : Shared} {Nx : Hp → Prop} {Y : Shared → Prop} (inv : Inv (X.blk s3 H3 scope ce fp) ps τ G z) (want : tLev wi g vs B Nx τ G) (leave : ∀ {z' : Shared} {G' : Hp}, Inv (X.blk s3 H3 scope ce fp) ps (wipe τ vs) G' z' → Nx G' → Y z') :
    wpAny (model X.prog X.w) X.A (eval src ce) (fun xv z1 => wpAny (model X.prog X.w) X.A (pyIter xv) (fun it z2 => codeAny (model X.prog X.w) X.A (.compStart C k it acc ce) (fun r z' => match r with
      | .ok _ => Y z'
      | .error _ => False) z2) Fls z1) Fls z := by
  refine thnF (source.run _ z τ G _ inv want) fun xv z1 came => thnF came fun _ z2 ⟨at_, fs, tn, J, G2, ev, a2, T, b2, fine, W, ⟨m, w0⟩, walk⟩ => ?_
  subst ev
  have all := run_level calm (R := fun r z' => match r with
      | .ok _ => Y z'
      | .error _ => False) loop target body T (fun _ c b hb => ⟨c b hb, (fine b hb).2⟩) walk (fun a e => leave a e) ⟨m, G2, a2.weak (wipe_length _ _) (fun i v ev => (wipe_some ev).1), b2, fun b hb => (fine b hb).1, w0⟩
  exact start all (T.self X.A 0 _ _ _ b2 all)
end
section
variable {X : Cx}
def tLc3 (wi : TI) (g : TG) (wi1 : TI) (g1 : TG) (wi2 : TI) (g2 : TG) (te : TE) (vs vs1 vs2 : List Nat) : TE := fun σ H Q => wi σ H fun J H1 => ∀ D, H1 D = none → ∃ W : Nat → Nat → Hp → Prop, (∃ m, W 0 m (upd H1 D (.lst []))) ∧ ∀ i m H, W i m H →
  (J.stop i H ∧ Q (.ref D) H) ∨ (J.go i H ∧ ∃ Nx : Hp → Prop, (∀ H', Nx H' → ∃ m', m' < m ∧ W (i + 1) m' H') ∧ ∀ x H', J.yld i H x H' → g x (wipe σ vs) H' fun σ2 H2 => wipe σ2 vs = wipe σ vs ∧
    tLev wi1 g1 vs1 (fun σ3 H3 Nx1 => tLev wi2 g2 vs2 (fun σ4 H4 Nx2 => te σ4 H4 fun y H7 => ∃ acc, H7 D = some (.lst acc) ∧ acc.length < sizeLine ∧ Nx2 (upd H7 D (.lst (acc ++ [y])))) Nx1 σ3 H3) Nx σ2 H2)
theorem pe_lc3 {elt t0 i0 t1 i1 t2 i2 : Expr} {scope : Scope} {own : List (Str × Nat)} {vs1 vs2 : List Nat} {pos : Pos} {wi wi1 wi2 : TI} {g g1 g2 : TG} {te : TE} (calm : X.calm = true) (hN : X.N.Nodup) (first : PI X t0 i0 wi) (ok : BlkOk X.N X.env.scope scope own) (in1 : ∀ i ∈ vs1, i ∈ own.map (·.2)) (in2 : ∀ i ∈ vs2, i ∈ vs1)
    (tg0 : ∀ (s : Shared) (H : Hp) (C : Addr) (cl : List (Str × Addr)) (fp : List Addr), PG (X.blk s H scope (compEnvC scope cl C X.env) fp) t0 g)
    (it1 : ∀ (s : Shared) (H : Hp) (C : Addr) (cl : List (Str × Addr)) (fp : List Addr), PI (X.blk s H scope (compEnvC scope cl C X.env) fp) t1 i1 wi1) (tg1 : ∀ (s : Shared) (H : Hp) (C : Addr) (cl : List (Str × Addr)) (fp : List Addr), PG (X.blk s H scope (compEnvC scope cl C X.env) fp) t1 g1)
    (it2 : ∀ (s : Shared) (H : Hp) (C : Addr) (cl : List (Str × Addr)) (fp : List Addr), PI (X.blk s H scope (compEnvC scope cl C X.env) fp) t2 i2 wi2) (tg2 : ∀ (s : Shared) (H : Hp) (C : Addr) (cl : List (Str × Addr)) (fp : List Addr), PG (X.blk s H scope (compEnvC scope cl C X.env) fp) t2 g2)
    (el : ∀ (s : Shared) (H : Hp) (C : Addr) (cl : List (Str × Addr)) (fp : List Addr), PE (X.blk s H scope (compEnvC scope cl C X.env) fp) elt te)
    (fo0 : ∀ x, foldedSetIterable i0 X.env x = pure x := by intro _; rfl) (fo1 : ∀ env x, foldedSetIterable i1 env x = pure x := by intro _ _; rfl) (fo2 : ∀ env x, foldedSetIterable i2 env x = pure x := by intro _ _; rfl) :
    PE X (C3 elt t0 i0 t1 i1 t2 i2 scope pos) (tLc3 wi g wi1 g1 wi2 g2 te (own.map (·.2)) vs1 vs2) := by
  refine ⟨fun ps z τ G Q inv want => ?_⟩
  rw [eval_ListComp]
  refine wpAny_comprehension_free rfl fo0 (closure_ok fun y hy e => (ok.free y hy e).elim (fun q => inv.ok.has _ (.inl q)) fun q => inv.ok.has _ (.inr q)) ok.kind (fun y hy e => (ok.uniq y hy).trans (by rw [e]))
    (thn (first.run ps z τ G _ inv want) fun xv z1 came => thn came fun _ z2 ⟨at_, fs, tn, J, G2, ev, a2, T, b2, fine, go⟩ => ?_)
  subst ev
  refine wpAny_newObj_type (newEnv_comp ?_) (by show 0 ≤ sizeLine; decide)
  have hole : G2 z2.heap.objs.size = none := a2.hok.fresh (Nat.le_refl _)
  obtain ⟨W, ⟨m, w0⟩, walk⟩ := go _ hole
  have a3 : Inv X ps τ (upd G2 z2.heap.objs.size (.lst [])) { z2 with heap := z2.heap.push { cls := .type "list", data := .seq ([] : List Value).toArray } } :=
    a2.laid (fun b o eo => Heap.get?_push_of_some _ eo) (Nat.le_refl _) ⟨Nat.zero_le _, [], 0, .nil, Heap.get?_push_size _ rfl⟩
  have low : ∀ b ∈ fs, b < z2.heap.objs.size := fun b hb => (T.obj _ _ b2 b hb).elim fun o q => Heap.lt_size q.1
  have fine3 : ∀ b ∈ fs, FpOk X ps (upd G2 z2.heap.objs.size (.lst [])) b ∧ b < (z2.heap.push { cls := .type "list", data := .seq ([] : List Value).toArray }).objs.size := fun b hb =>
    ⟨⟨(upd_ne (Nat.ne_of_lt (low b hb))).trans (fine b hb).1, (fine b hb).2⟩, by rw [Heap.size_push]; exact Nat.lt_succ_of_lt (low b hb)⟩
  have a4 := block_start a3 ok hN fine3
  have b3 : tn 0 (z2.heap.push { cls := .type "list", data := .seq ([] : List Value).toArray }) := T.keep _ _ _ b2 fun b _ o eo => Heap.get?_push_of_some _ eo
  have b4 : tn 0 (pushCells ((z2.heap.push { cls := .type "list", data := .seq ([] : List Value).toArray }).push { cls := .type "dict", data := .dict #[] }) scope.names) := T.keep _ _ _ b3 fun b _ o eo => pushCells_keeps _ _ _ _ (Heap.get?_push_of_some _ eo)
  have all := run_level calm (R := compPost (model X.prog X.w) X.A X.xe none (EP X ps τ Q) (.ref z2.heap.objs.size) (z2.heap.push { cls := .type "list", data := .seq ([] : List Value).toArray }).objs.size) (vs := own.map (·.2))
    (B := fun τ2 G2 Nx => tLev wi1 g1 vs1 (fun σ3 H3 Nx1 => tLev wi2 g2 vs2 (fun σ4 H4 Nx2 => te σ4 H4 fun y H7 => ∃ acc, H7 z2.heap.objs.size = some (.lst acc) ∧ acc.length < sizeLine ∧ Nx2 (upd H7 z2.heap.objs.size (.lst (acc ++ [y])))) Nx1 σ3 H3) Nx τ2 G2)
    (fun Z tn n h => loop0 (elt := elt) (t0 := t0) (i0 := i0) (t1 := t1) (t2 := t2) (i2 := i2) (scope := scope) (pos := pos) (acc := .ref z2.heap.objs.size) (fo1 _) Z tn n h) (tg0 _ _ _ _ _)
    (fun v q fin => lev calm (fun Z tn n h => loop1 (fo2 _) Z tn n h) start1 (it1 _ _ _ _ _) (tg1 _ _ _ _ _)
      (fun v q fin => lev calm (fun Z tn n h => loop2 Z tn n h) start2 (it2 _ _ _ _ _) (tg2 _ _ _ _ _)
        (fun v q fin => by
          refine thnF ((el _ _ _ _ _).run _ _ _ _ _ v q) fun u z' got => ?_
          obtain ⟨y, G', v', ry, acc, hl, room, nx⟩ := got
          exact app_ok (X := X.blk _ (upd G2 z2.heap.objs.size (.lst [])) scope _ fs) v' hl room ry fun z'' v'' => fin v'' rfl (fun j w e => (wipe_some e).1) nx)
        v q fun a e => fin a (wipe_length _ _) (fun j w h => by rw [wipe_out fun k => (wipe_some h).2 (in2 j k)]; exact (wipe_some h).1) e)
      v q fun a e => fin a (wipe_length _ _) (fun j w h => by rw [wipe_out fun k => (wipe_some h).2 (in1 j k)]; exact (wipe_some h).1) e)
    T (fun v c b hb => ⟨c b hb, (v.ok.exf b hb).1, v.ok.exfs b hb, .inl hb, fun x c e => (v.ok.exf b hb).2 x c e, fun p hp => absurd hp (by simp)⟩) walk
    (fun {G z'} v e => by
      have back : Inv X ps τ G z' := a3.call' (ch := fs) v.os v.base v.hok v.bare fun b hb => by
        obtain ⟨_, p1, p2, p3, p4, p5⟩ := (fine3 b hb).1
        exact ⟨p3, p1, p4, p5⟩
      obtain ⟨n, ns, _⟩ := v.loc
      obtain ⟨f0, f1, _, f3, f4, f5⟩ := a3.fpOk (Nat.le_refl _) (show G _ = none from v.free)
      exact ⟨n, ns, fun h2 sb => ⟨.ref _, G, back.turned (t' := z'.toks) (fun b o hb eo => (sb.2 b hb).trans eo) f0 f1 f3 f4 f5, rfl, e⟩⟩)
    ⟨m, _, a4, b4, fun b hb => (fine3 b hb).1.1, w0⟩
  exact codeAny_compStart_list all (T.self X.A 0 _ _ _ b4 all)
end
end Td
/-! The head's look for a program with a method that opens with super().__init__(). -/
namespace Td
open PySem PySem.Spec PyProof.Rows L2
def frU (n : Nat) (g : Addr → Option Obj) : PySem.W.Frag := He.frT g (cStatics :: He.asD g n)
abbrev FnC : Type := Option (Str × Str × Arguments × FuncBody × Scope × Addr × List Str × Addr)
/-- a function's text, its closure by names alone -/
def fnC (K : PySem.W.Frag) (p : Str × Option Str) : FnC := match K.lookup (He.fAd K p) with
  | some ⟨_, _, .func fd, _⟩ => some (fd.name, fd.qualname, fd.params, fd.body, fd.scope, fd.globals, fd.closure.map (·.1), fd.builtins)
  | _ => none
structure SupD where
  cls : Str
  oth : Str
  qual : Str
  file : Str
  params : Arguments
  body : List Stmt
  scope : Scope
def SupD.at_ (d : SupD) : Str × Option Str := (d.cls, some "__init__")
def SupD.val (d : SupD) : FnC := some ("__init__", d.qual, d.params, .stmts d.body, d.scope, mainGlobals, ["__class__"], builtinsNs)
def cellB (K : PySem.W.Frag) (d : SupD) (l : List (Str × Addr)) : Bool := match l with
  | [q] => (match K.lookup q.2 with
    | some ⟨_, _, .cell (some (.ref D)), _⟩ => decide (D = He.ga K d.cls)
    | _ => false)
  | _ => false
def noneB (v : Value) : Bool := match v with
  | .none => true
  | _ => false
def strB (x : Str) (v : Option Value) : Bool := match v with
  | some (.str f _) => x == f
  | _ => false
def fileB (K : PySem.W.Frag) (d : SupD) (v : Value) : Bool := match v with
  | .ref cda => (match K.lookup cda with
    | some ⟨_, _, .fields vs, _⟩ => strB d.file (vs[2]?)
    | _ => false)
  | _ => false
theorem cellB_ok {K : PySem.W.Frag} {d : SupD} {l : List (Str × Addr)} (h : cellB K d l = true) : ∃ x cc c1 c2 c4, l = [(x, cc)] ∧ K.lookup cc = some ⟨c1, c2, .cell (some (.ref (He.ga K d.cls))), c4⟩ := by
  unfold cellB at h
  split at h
  · rename_i q
    split at h
    · rename_i c1 c2 D c4 e
      exact ⟨q.1, q.2, c1, c2, c4, rfl, by rw [e, of_decide_eq_true h]⟩
    · cases h
  · cases h
theorem noneB_ok {v : Value} (h : noneB v = true) : v = .none := by
  cases v with
  | none => rfl
  | _ => cases h
theorem strB_ok {x : Str} {v : Option Value} (h : strB x v = true) : ∃ f t, v = some (.str f t) ∧ (x == f) = true := by
  unfold strB at h
  split at h
  · rename_i f t
    exact ⟨f, t, rfl, h⟩
  · cases h
theorem fileB_ok {K : PySem.W.Frag} {d : SupD} {v : Value} (h : fileB K d v = true) : ∃ cda f1 f2 vs f4 f t, v = .ref cda ∧ K.lookup cda = some ⟨f1, f2, .fields vs, f4⟩ ∧ vs[2]? = some (.str f t) ∧ (d.file == f) = true := by
  unfold fileB at h
  split at h
  · rename_i cda
    split at h
    · rename_i f1 f2 vs f4 e
      obtain ⟨f, t, h1, h2⟩ := strB_ok h
      exact ⟨cda, f1, f2, vs, f4, f, t, rfl, e, h1, h2⟩
    · cases h
  · cases h
def supFn (K : PySem.W.Frag) (d : SupD) : Bool := match K.lookup (He.fAd K d.at_) with
  | some ⟨_, _, .func fd, _⟩ => cellB K d fd.closure && (noneB fd.defaults && (fileB K d fd.code && PySem.W.codeIn K fd.code d.qual))
  | _ => false
def supB (K : PySem.W.Frag) (d : SupD) : Bool := supFn K d && ((PySem.W.clsIn K (He.ga K d.cls)).isSome && (decide (PySem.W.mroIn K (He.ga K d.cls) (.ref (He.ga K d.cls)) = some true) && (He.eqO (PySem.W.ks_superIn K (He.ga K d.cls) (He.ga K d.cls) "__init__") (some (some (.ref (He.fAd K (d.oth, some "__init__"))))) &&
  (decide (PySem.W.typeIn K (.ref (He.fAd K (d.oth, some "__init__"))) = some (.type "function")) && (PySem.W.fnIn K (He.fAd K (d.oth, some "__init__")) && (He.eqO (PySem.W.nsIn K cStatics "thirdparty.any") (some none) && (He.eqO (PySem.W.nsIn K mainGlobals "super") (some none) && PySem.W.keepIn K (.ref (He.fAd K d.at_)))))))))
theorem sup_of {P : Program} {K : PySem.W.Frag} {d : SupD} {st : Stmt} (hp : d.params = defArgs st) (hb : d.body = defBody st) (hs : d.scope = defScope st) (hf : P.main.file = d.file) (e : fnC K d.at_ = d.val) (c : supB K d = true) :
    ∃ fd, Sup P K d.qual st (He.fAd K d.at_) (He.ga K d.cls) (He.fAd K (d.oth, some "__init__")) fd := by
  obtain ⟨c1, c⟩ := He.ba c
  obtain ⟨c2, c⟩ := He.ba c
  obtain ⟨c3, c⟩ := He.ba c
  obtain ⟨c4, c⟩ := He.ba c
  obtain ⟨c5, c⟩ := He.ba c
  obtain ⟨c6, c⟩ := He.ba c
  obtain ⟨c7, c⟩ := He.ba c
  obtain ⟨c8, c9⟩ := He.ba c
  unfold supFn at c1
  unfold fnC at e
  cases q : K.lookup (He.fAd K d.at_) with
  | none => rw [q] at e; cases e
  | some o =>
    obtain ⟨oc, od, dt, osl⟩ := o
    rw [q] at e c1
    cases dt with
    | func fd =>
      obtain ⟨n1, n2, n3, n4, n5, n6, n7, n8, n9, n10, n11, n12, n13, n14, n15⟩ := fd
      have e2 : (some (n1, n2, n3, n4, n5, n6, n7.map (·.1), n15) : FnC) = d.val := e
      unfold SupD.val at e2
      simp only [Option.some.injEq, Prod.mk.injEq] at e2
      obtain ⟨h1, h2, h3, h4, h5, h6, h7, h8⟩ := e2
      obtain ⟨d1, d2⟩ := He.ba c1
      obtain ⟨d3, d4⟩ := He.ba d2
      obtain ⟨d5, d6⟩ := He.ba d4
      obtain ⟨x1, cc, k1, k2, k4, hl, hcc⟩ := cellB_ok d1
      obtain ⟨cda, f1, f2, vs, f4, f, tf, hcode, hcda, hv, hfile⟩ := fileB_ok d5
      have hd := noneB_ok d3
      dsimp only at hl hcode hd d6
      subst hl
      have hx : x1 = "__class__" := by simpa using h7
      subst hx h1 h2 h3 h4 h5 h6 h8 hcode hd
      obtain ⟨cd, hcd⟩ := Option.isSome_iff_exists.mp c2
      refine ⟨_, ⟨oc, od, osl, n9, n10, n11, n12, n14, cc, cda, f1, f2, vs, f4, f, tf, k1, k2, k4, rfl, ?_, d6, hcda, hv, by rw [hf]; exact hfile, hcc⟩, ⟨cd, hcd⟩, of_decide_eq_true c3, He.eqO_ok c4, of_decide_eq_true c5, c6, He.eqO_ok c7, He.eqO_ok c8, c9⟩
      rw [← hp, ← hb, ← hs]
      exact q
    | _ => cases e
/-! ### the Hook -/
abbrev AlU : Type := He.AlT × (Bool × List FnC)
def obsU (n : Nat) (fa : List He.Fa) (fn : List He.DefD) (ts : List He.Tab) (us : List SupD) (ex : PySem.W.Frag → Bool) (g : Addr → Option Obj) : AlU := (He.obsT fa fn ts (frU n g), (ex (frU n g) && us.all (supB (frU n g)), us.map fun d => fnC (frU n g) d.at_))
def valU (fn : List He.DefD) (ts : List He.Tab) (us : List SupD) (w : World) : AlU := (He.valT fn ts w, (true, us.map SupD.val))
structure SaysU (fa : List He.Fa) (fn : List He.DefD) (ts : List He.Tab) (us : List SupD) (ex : PySem.W.Frag → Bool) (w : World) (K : PySem.W.Frag) : Prop where
  t : He.SaysT fa fn ts w K
  more : ex K = true
  us : ∀ d ∈ us, supB K d = true ∧ fnC K d.at_ = d.val
theorem saysU_of {n : Nat} {fa : List He.Fa} {fn : List He.DefD} {ts : List He.Tab} {us : List SupD} {ex : PySem.W.Frag → Bool} {w : World} {g : Addr → Option Obj} (e : obsU n fa fn ts us ex g = valU fn ts us w) : SaysU fa fn ts us ex w (frU n g) := by
  have e1 : He.obsT fa fn ts (frU n g) = He.valT fn ts w := congrArg (fun z : AlU => z.1) e
  have e2 : (ex (frU n g) && us.all (supB (frU n g))) = true := congrArg (fun z : AlU => z.2.1) e
  have e3 : (us.map fun d => fnC (frU n g) d.at_) = us.map SupD.val := congrArg (fun z : AlU => z.2.2) e
  obtain ⟨a, b⟩ := He.ba e2
  refine ⟨e1, a, fun d hd => ⟨List.all_eq_true.mp b d hd, ?_⟩⟩
  exact List.map_inj_left.mp e3 d hd
def hookU (n : Nat) (fa : List He.Fa) (fn : List He.DefD) (ts : List He.Tab) (us : List SupD) (ex : PySem.W.Frag → Bool) : PySem.W.Hook where
  α := AlU
  obs := fun s => obsU n fa fn ts us ex s.heap.get?
  val := fun w => valU fn ts us w
  says := fun w h => ∃ K : PySem.W.Frag, K.In h ∧ SaysU fa fn ts us ex w K
  of := fun _ _ e => ⟨_, He.frT_in, saysU_of e⟩
  keeps := fun _ _ _ ⟨K, hK, c⟩ k => ⟨K, PySem.W.Frag.In.keeps hK k, c⟩
theorem obsU_eq {n : Nat} {fa : List He.Fa} {fn : List He.DefD} {ts : List He.Tab} {us : List SupD} {ex : PySem.W.Frag → Bool} {g : Addr → Option Obj} {s : Shared} (h : ∀ a, g a = s.heap.get? a) : obsU n fa fn ts us ex g = (hookU n fa fn ts us ex).obs s := by
  have e : g = s.heap.get? := funext h
  rw [e] <;> rfl
end Td
/-! The head's look over a list of places that is written out. -/
namespace Td
open PySem PySem.Spec PyProof.Rows L2
def obsV (as : List Addr) (fa : List He.Fa) (fn : List He.DefD) (ts : List He.Tab) (us : List SupD) (ex : PySem.W.Frag → Bool) (g : Addr → Option Obj) : AlU := (He.obsT fa fn ts (He.frT g as), (ex (He.frT g as) && us.all (supB (He.frT g as)), us.map fun d => fnC (He.frT g as) d.at_))
theorem saysV_of {as : List Addr} {fa : List He.Fa} {fn : List He.DefD} {ts : List He.Tab} {us : List SupD} {ex : PySem.W.Frag → Bool} {w : World} {g : Addr → Option Obj} (e : obsV as fa fn ts us ex g = valU fn ts us w) : SaysU fa fn ts us ex w (He.frT g as) := by
  have e1 : He.obsT fa fn ts (He.frT g as) = He.valT fn ts w := congrArg (fun z : AlU => z.1) e
  have e2 : (ex (He.frT g as) && us.all (supB (He.frT g as))) = true := congrArg (fun z : AlU => z.2.1) e
  have e3 : (us.map fun d => fnC (He.frT g as) d.at_) = us.map SupD.val := congrArg (fun z : AlU => z.2.2) e
  obtain ⟨a, b⟩ := He.ba e2
  exact ⟨e1, a, fun d hd => ⟨List.all_eq_true.mp b d hd, List.map_inj_left.mp e3 d hd⟩⟩
def hookV (as : List Addr) (fa : List He.Fa) (fn : List He.DefD) (ts : List He.Tab) (us : List SupD) (ex : PySem.W.Frag → Bool) : PySem.W.Hook where
  α := AlU
  obs := fun s => obsV as fa fn ts us ex s.heap.get?
  val := fun w => valU fn ts us w
  says := fun w h => ∃ K : PySem.W.Frag, K.In h ∧ SaysU fa fn ts us ex w K
  of := fun _ _ e => ⟨_, He.frT_in, saysV_of e⟩
  keeps := fun _ _ _ ⟨K, hK, c⟩ k => ⟨K, PySem.W.Frag.In.keeps hK k, c⟩
theorem obsV_eq {as : List Addr} {fa : List He.Fa} {fn : List He.DefD} {ts : List He.Tab} {us : List SupD} {ex : PySem.W.Frag → Bool} {g : Addr → Option Obj} {s : Shared} (h : ∀ a, g a = s.heap.get? a) : obsV as fa fn ts us ex g = (hookV as fa fn ts us ex).obs s := by
  have e : g = s.heap.get? := funext h
  rw [e] <;> rfl
end Td
/-! The head's look for own exceptions of one field. -/
namespace Td
open PySem PySem.Spec PyProof.Rows L2
def mroVE (C : Addr) : List Value → Bool
  | .ref D :: bm => decide (D = C) && PySem.HandSPX.refsVE bm
  | _ => false
theorem mroVE_ok {C : Addr} {l : List Value} (h : mroVE C l = true) : ∃ bm, l = .ref C :: bm ∧ PySem.HandSPX.refsVE bm = true := by
  unfold mroVE at h
  split at h
  · rename_i D bm
    obtain ⟨h1, h2⟩ := He.ba h
    exact ⟨bm, by rw [of_decide_eq_true h1], h2⟩
  · cases h
def newVE : List (Option Value) → Bool
  | [_, _, _, _, some (.builtin n), _] => n == "ValueError.__new__"
  | _ => false
theorem newVE_ok {l : List (Option Value)} (h : newVE l = true) : ∃ k0 k1 k2 k3 k5, l = [k0, k1, k2, k3, some (.builtin "ValueError.__new__"), k5] := by
  unfold newVE at h
  split at h
  · rename_i k0 k1 k2 k3 n k5
    exact ⟨k0, k1, k2, k3, k5, by rw [of_decide_eq_true h]⟩
  · cases h
def oexCls (K : PySem.W.Frag) (C : Addr) : Bool := match K.lookup C with
  | some ⟨.type "type", _, .cls cd, sl⟩ => cd.hasDict && (!cd.hasDel && (mroVE C cd.mro && newVE sl.toList))
  | _ => false
def oexB (K : PySem.W.Frag) (C : Addr) : Bool := oexCls K C && (He.eqO (PySem.W.findIn K (.ref C) "__setattr__") (some (some (.builtin "object.__setattr__"))) && (decide (PySem.W.subIn K (.ref C) (.type "BaseException") = some true) && (decide (PySem.W.typeIn K (.ref C) = some (.type "type")) && PySem.W.keepIn K (.ref C))))
theorem oexB_ok {K : PySem.W.Frag} {C : Addr} (h : oexB K C = true) : OexC K C := by
  obtain ⟨c1, h⟩ := He.ba h
  obtain ⟨c2, h⟩ := He.ba h
  obtain ⟨c3, h⟩ := He.ba h
  obtain ⟨c4, c5⟩ := He.ba h
  refine ⟨?_, He.eqO_ok c2, of_decide_eq_true c3, of_decide_eq_true c4, c5⟩
  unfold oexCls at c1
  split at c1
  · rename_i dd cd sl e
    obtain ⟨d1, c1⟩ := He.ba c1
    obtain ⟨d2, c1⟩ := He.ba c1
    obtain ⟨d3, d4⟩ := He.ba c1
    obtain ⟨bm, em, hm⟩ := mroVE_ok d3
    obtain ⟨k0, k1, k2, k3, k5, es⟩ := newVE_ok d4
    obtain ⟨nm, bs, mro, ns, qn, hd, sn, sb, ab, col, del⟩ := cd
    obtain ⟨sl⟩ := sl
    dsimp only at d1 d2 em es
    subst em es d1
    have d2' : del = false := by simpa using d2
    subst d2'
    exact ⟨nm, qn, ns, bs, bm, sn, sb, ab, col, dd, k0, k1, k2, k3, k5, e, hm⟩
  · cases c1
/-- an own exception class, its __init__ and its one field -/
def excB (K : PySem.W.Frag) (x f : Str) : Bool := oexB K (He.ga K x) && (He.eqO (PySem.W.findIn K (.ref (He.ga K x)) "__init__") (some (some (.ref (He.fAd K (x, some "__init__"))))) && (decide (PySem.W.typeIn K (.ref (He.fAd K (x, some "__init__"))) = some (.type "function")) && (He.eqO (PySem.W.findIn K (.ref (He.ga K x)) f) (some none) && xfB K (He.ga K x))))
theorem excB_ok {K : PySem.W.Frag} {x f : Str} (h : excB K x f = true) : OexC K (He.ga K x) ∧ PySem.W.findIn K (.ref (He.ga K x)) "__init__" = some (some (.ref (He.fAd K (x, some "__init__")))) ∧ PySem.W.typeIn K (.ref (He.fAd K (x, some "__init__"))) = some (.type "function") ∧
    PySem.W.findIn K (.ref (He.ga K x)) f = some none ∧ XfC K (He.ga K x) := by
  obtain ⟨c1, h⟩ := He.ba h
  obtain ⟨c2, h⟩ := He.ba h
  obtain ⟨c3, h⟩ := He.ba h
  obtain ⟨c4, c5⟩ := He.ba h
  exact ⟨oexB_ok c1, He.eqO_ok c2, of_decide_eq_true c3, He.eqO_ok c4, xfB_ok c5⟩
end Td
/-! The head's look for isinstance of caught errors, of own objects, and for own ==. -/
namespace Td
open PySem PySem.Spec PyProof.Rows L2
def clsB (K : PySem.W.Frag) (C : Addr) : Bool := He.eqO (PySem.W.findIn K (.ref C) "__class__") (some (some (.builtin "object.__class__"))) && (He.eqO (PySem.W.specialIn K (.builtin "object.__class__") "__get__") (some (some (.builtin "getset_descriptor.__get__"))) &&
  (decide (PySem.W.takesIn K (.builtin "object.__class__") = some true) && decide (PySem.W.mroIn K C (.type "object") = some true)))
def askB (K : PySem.W.Frag) (C : Addr) : Bool := clsB K C && (He.eqO (PySem.W.findIn K (.ref C) "__getattribute__") (some (some (.builtin "BaseException.__getattribute__"))) && (He.eqO (PySem.W.findIn K (.ref C) "__getattr__") (some none) &&
  (decide (PySem.W.subIn K (.ref C) (.type "BaseException") = some true) && PySem.W.hasDictIn K C)))
theorem askB_ok {K : PySem.W.Frag} {C : Addr} (h : askB K C = true) : ExcC K C := by
  obtain ⟨c0, h⟩ := He.ba h
  obtain ⟨c1, h⟩ := He.ba h
  obtain ⟨c2, h⟩ := He.ba h
  obtain ⟨c3, c4⟩ := He.ba h
  obtain ⟨d1, d⟩ := He.ba c0
  obtain ⟨d2, d⟩ := He.ba d
  obtain ⟨d3, d4⟩ := He.ba d
  exact ⟨He.eqO_ok c1, He.eqO_ok c2, of_decide_eq_true c3, c4, He.eqO_ok d1, He.eqO_ok d2, of_decide_eq_true d3, of_decide_eq_true d4⟩
def ownB (K : PySem.W.Frag) (C : Addr) : Bool := clsB K C && decide (PySem.W.kitOne K (.ref C) (.ref C) = some true)
theorem ownB_ok {K : PySem.W.Frag} {C : Addr} (l : Cls K C) (h : ownB K C = true) : C8.InsC K C := by
  obtain ⟨c0, c1⟩ := He.ba h
  obtain ⟨d1, d⟩ := He.ba c0
  obtain ⟨d2, d⟩ := He.ba d
  obtain ⟨d3, d4⟩ := He.ba d
  exact ⟨l, He.eqO_ok d1, He.eqO_ok d2, of_decide_eq_true d3, of_decide_eq_true d4, of_decide_eq_true c1⟩
def kitB (K : PySem.W.Frag) (t u : Value) (b : Bool) : Bool := decide (PySem.W.kitOne K t u = some b)
end Td
/-! A written tuple of texts, read at the head. -/
namespace Td
open PySem PySem.Spec PyProof.Rows L2
def strsB : List Str → List Value → Bool
  | [], [] => true
  | z :: zs, .str y _ :: us => decide (y = z) && strsB zs us
  | _, _ => false
theorem strsB_ok : ∀ {zs : List Str} {us : List Value}, strsB zs us = true → Vals (zs.map V.str) us
  | [], [], _ => .nil
  | z :: zs, .str y t :: us, h => by
    obtain ⟨h1, h2⟩ := He.ba (show (decide (y = z) && strsB zs us) = true from h)
    obtain rfl := of_decide_eq_true h1
    exact .cons ⟨t, rfl⟩ (strsB_ok h2)
def tupB (K : PySem.W.Frag) (a : Addr) (zs : List Str) : Bool := match K.lookup a with
  | some o => decide (o.cls = .type "tuple") && (match o.data with
    | .seq its _ => decide (its.size ≤ 1000) && strsB zs its.toList
    | _ => false)
  | none => false
theorem tupB_ok {K : PySem.W.Frag} {a : Addr} {zs : List Str} (h : tupB K a zs = true) (H : Hp) : SqT K H a (zs.map V.str) := by
  unfold tupB at h
  cases e : K.lookup a with
  | none => rw [e] at h; cases h
  | some o =>
    rw [e] at h
    obtain ⟨h1, h2⟩ := He.ba h
    cases ed : o.data with
    | seq its n =>
      rw [ed] at h2
      obtain ⟨h3, h4⟩ := He.ba h2
      exact .inr ⟨o, its, n, e, of_decide_eq_true h1, ed, Nat.le_trans (of_decide_eq_true h3) (by decide), strsB_ok h4⟩
    | _ => rw [ed] at h2; cases h2
end Td
namespace K09
open PySem PySem.Spec PyProof.Rows L2 Td
def top (i : Nat) : Stmt := PySem.Challenge.pw_toldonward_k09_deeds.main.body.getD i (.Pass ⟨0, 0, 0, 0⟩)
abbrev s_InvalidProgram_init : Stmt := inClass (top 3) 0
abbrev N_InvalidProgram_init : List Str := ["self", "part", "path"]
theorem sc_InvalidProgram_init : FnScope N_InvalidProgram_init ["self", "part", "path"] (defScope s_InvalidProgram_init) := ⟨rfl, rfl, rfl, by decide +kernel, rfl, by decide +kernel, by decide +kernel⟩
abbrev s_InvalidRule_init : Stmt := inClass (top 4) 0
abbrev N_InvalidRule_init : List Str := ["self", "part"]
theorem sc_InvalidRule_init : FnScope N_InvalidRule_init ["self", "part"] (defScope s_InvalidRule_init) := ⟨rfl, rfl, rfl, by decide +kernel, rfl, by decide +kernel, by decide +kernel⟩
abbrev s_InvalidStart_init : Stmt := inClass (top 5) 0
abbrev N_InvalidStart_init : List Str := ["self", "words"]
theorem sc_InvalidStart_init : FnScope N_InvalidStart_init ["self", "words"] (defScope s_InvalidStart_init) := ⟨rfl, rfl, rfl, by decide +kernel, rfl, by decide +kernel, by decide +kernel⟩
abbrev s_UnknownCell_init : Stmt := inClass (top 6) 0
abbrev N_UnknownCell_init : List Str := ["self", "name"]
theorem sc_UnknownCell_init : FnScope N_UnknownCell_init ["self", "name"] (defScope s_UnknownCell_init) := ⟨rfl, rfl, rfl, by decide +kernel, rfl, by decide +kernel, by decide +kernel⟩
abbrev s_is_deed : Stmt := top 8
abbrev N_is_deed : List Str := ["program", "value"]
theorem sc_is_deed : FnScope N_is_deed ["program", "value"] (defScope s_is_deed) := ⟨rfl, rfl, rfl, by decide +kernel, rfl, by decide +kernel, by decide +kernel⟩
abbrev s_is_write : Stmt := top 9
abbrev N_is_write : List Str := ["program", "value"]
theorem sc_is_write : FnScope N_is_write ["program", "value"] (defScope s_is_write) := ⟨rfl, rfl, rfl, by decide +kernel, rfl, by decide +kernel, by decide +kernel⟩
abbrev s_is_batch : Stmt := top 10
abbrev N_is_batch : List Str := ["program", "value", "before", "write"]
theorem sc_is_batch : FnScope N_is_batch ["program", "value"] (defScope s_is_batch) := ⟨rfl, rfl, rfl, by decide +kernel, rfl, by decide +kernel, by decide +kernel⟩
abbrev s_deeds : Stmt := top 11
abbrev N_deeds : List Str := ["program", "batches", "writes", "found", "source", "word", "name", "pair"]
theorem sc_deeds : FnScope N_deeds ["program", "batches"] (defScope s_deeds) := ⟨rfl, rfl, rfl, by decide +kernel, rfl, by decide +kernel, by decide +kernel⟩
abbrev s_pairs_of_writes : Stmt := top 12
abbrev N_pairs_of_writes : List Str := ["program", "writes", "places", "place", "source", "first", "second"]
theorem sc_pairs_of_writes : FnScope N_pairs_of_writes ["program", "writes"] (defScope s_pairs_of_writes) := ⟨rfl, rfl, rfl, by decide +kernel, rfl, by decide +kernel, by decide +kernel⟩
abbrev s_is_name : Stmt := top 15
abbrev N_is_name : List Str := ["value", "letter"]
theorem sc_is_name : FnScope N_is_name ["value"] (defScope s_is_name) := ⟨rfl, rfl, rfl, by decide +kernel, rfl, by decide +kernel, by decide +kernel⟩
abbrev s_are_names : Stmt := top 16
abbrev N_are_names : List Str := ["value", "least", "most", "item"]
theorem sc_are_names : FnScope N_are_names ["value", "least", "most"] (defScope s_are_names) := ⟨rfl, rfl, rfl, by decide +kernel, rfl, by decide +kernel, by decide +kernel⟩
abbrev s_are_named_pairs : Stmt := top 17
abbrev N_are_named_pairs : List Str := ["value", "most", "taken", "before", "pair"]
theorem sc_are_named_pairs : FnScope N_are_named_pairs ["value", "most", "taken"] (defScope s_are_named_pairs) := ⟨rfl, rfl, rfl, by decide +kernel, rfl, by decide +kernel, by decide +kernel⟩
abbrev s_Scope_init : Stmt := inClass (top 21) 0
abbrev N_Scope_init : List Str := ["self", "kind", "words", "sources", "readable"]
theorem sc_Scope_init : FnScope N_Scope_init ["self", "kind", "words", "sources", "readable"] (defScope s_Scope_init) := ⟨rfl, rfl, rfl, by decide +kernel, rfl, by decide +kernel, by decide +kernel⟩
abbrev s_is_read_row : Stmt := top 22
abbrev N_is_read_row : List Str := ["row", "scope"]
theorem sc_is_read_row : FnScope N_is_read_row ["row", "scope"] (defScope s_is_read_row) := ⟨rfl, rfl, rfl, by decide +kernel, rfl, by decide +kernel, by decide +kernel⟩
abbrev s_is_put_row : Stmt := top 23
abbrev N_is_put_row : List Str := ["row", "scope"]
theorem sc_is_put_row : FnScope N_is_put_row ["row", "scope"] (defScope s_is_put_row) := ⟨rfl, rfl, rfl, by decide +kernel, rfl, by decide +kernel, by decide +kernel⟩
abbrev s_is_if_row : Stmt := top 24
abbrev N_is_if_row : List Str := ["row", "scope"]
theorem sc_is_if_row : FnScope N_is_if_row ["row", "scope"] (defScope s_is_if_row) := ⟨rfl, rfl, rfl, by decide +kernel, rfl, by decide +kernel, by decide +kernel⟩
abbrev s_is_slot_row : Stmt := top 25
abbrev N_is_slot_row : List Str := ["row", "scope"]
theorem sc_is_slot_row : FnScope N_is_slot_row ["row", "scope"] (defScope s_is_slot_row) := ⟨rfl, rfl, rfl, by decide +kernel, rfl, by decide +kernel, by decide +kernel⟩
abbrev s_is_write_row : Stmt := top 26
abbrev N_is_write_row : List Str := ["row", "scope"]
theorem sc_is_write_row : FnScope N_is_write_row ["row", "scope"] (defScope s_is_write_row) := ⟨rfl, rfl, rfl, by decide +kernel, rfl, by decide +kernel, by decide +kernel⟩
abbrev s_check_of : Stmt := top 29
abbrev N_check_of : List Str := ["kind", "form"]
theorem sc_check_of : FnScope N_check_of ["kind", "form"] (defScope s_check_of) := ⟨rfl, rfl, rfl, by decide +kernel, rfl, by decide +kernel, by decide +kernel⟩
abbrev s_is_valid_row : Stmt := top 30
abbrev N_is_valid_row : List Str := ["row", "scope", "depth", "fits"]
theorem sc_is_valid_row : FnScope N_is_valid_row ["row", "scope", "depth"] (defScope s_is_valid_row) := ⟨rfl, rfl, rfl, by decide +kernel, rfl, by decide +kernel, by decide +kernel⟩
abbrev s_first_wrong_path : Stmt := top 31
abbrev N_first_wrong_path : List Str := ["rows", "scope", "base", "depth", "place", "row", "path", "branch", "wrong"]
theorem sc_first_wrong_path : FnScope N_first_wrong_path ["rows", "scope", "base", "depth"] (defScope s_first_wrong_path) := ⟨rfl, rfl, rfl, by decide +kernel, rfl, by decide +kernel, by decide +kernel⟩
abbrev s_paths_of_rows : Stmt := top 32
abbrev N_paths_of_rows : List Str := ["rows", "base", "paths", "place", "row", "path", "branch"]
theorem sc_paths_of_rows : FnScope N_paths_of_rows ["rows", "base"] (defScope s_paths_of_rows) := ⟨rfl, rfl, rfl, by decide +kernel, rfl, by decide +kernel, by decide +kernel⟩
abbrev s_Program_init : Stmt := inClass (top 40) 0
abbrev N_Program_init : List Str := ["self", "words", "sources", "derived", "effects"]
theorem sc_Program_init : FnScope N_Program_init ["self", "words", "sources", "derived", "effects"] (defScope s_Program_init) := ⟨rfl, rfl, rfl, by decide +kernel, rfl, by decide +kernel, by decide +kernel⟩
abbrev s_Program_eq : Stmt := inClass (top 40) 1
abbrev N_Program_eq : List Str := ["self", "other"]
theorem sc_Program_eq : FnScope N_Program_eq ["self", "other"] (defScope s_Program_eq) := ⟨rfl, rfl, rfl, by decide +kernel, rfl, by decide +kernel, by decide +kernel⟩
abbrev s_Program_cells : Stmt := inClass (top 40) 2
abbrev N_Program_cells : List Str := ["self"]
theorem sc_Program_cells : FnScope N_Program_cells ["self"] (defScope s_Program_cells) := ⟨rfl, rfl, rfl, by decide +kernel, rfl, by decide +kernel, by decide +kernel⟩
abbrev s_Program_derived_names : Stmt := inClass (top 40) 3
abbrev N_Program_derived_names : List Str := ["self"]
theorem sc_Program_derived_names : FnScope N_Program_derived_names ["self"] (defScope s_Program_derived_names) := ⟨rfl, rfl, rfl, by decide +kernel, rfl, by decide +kernel, by decide +kernel⟩
abbrev s_Program_effect_names : Stmt := inClass (top 40) 4
abbrev N_Program_effect_names : List Str := ["self"]
theorem sc_Program_effect_names : FnScope N_Program_effect_names ["self"] (defScope s_Program_effect_names) := ⟨rfl, rfl, rfl, by decide +kernel, rfl, by decide +kernel, by decide +kernel⟩
abbrev s_Program_body : Stmt := inClass (top 40) 5
abbrev N_Program_body : List Str := ["self", "name", "own_name", "rows"]
theorem sc_Program_body : FnScope N_Program_body ["self", "name"] (defScope s_Program_body) := ⟨rfl, rfl, rfl, by decide +kernel, rfl, by decide +kernel, by decide +kernel⟩
abbrev s_Program_row_paths : Stmt := inClass (top 40) 6
abbrev N_Program_row_paths : List Str := ["self"]
theorem sc_Program_row_paths : FnScope N_Program_row_paths ["self"] (defScope s_Program_row_paths) := ⟨rfl, rfl, rfl, by decide +kernel, rfl, by decide +kernel, by decide +kernel⟩
abbrev s_Program_row_at : Stmt := inClass (top 40) 7
abbrev N_Program_row_at : List Str := ["self", "path"]
theorem sc_Program_row_at : FnScope N_Program_row_at ["self", "path"] (defScope s_Program_row_at) := ⟨rfl, rfl, rfl, by decide +kernel, rfl, by decide +kernel, by decide +kernel⟩
abbrev s_Program_with_row : Stmt := inClass (top 40) 8
abbrev N_Program_with_row : List Str := ["self", "path", "row"]
theorem sc_Program_with_row : FnScope N_Program_with_row ["self", "path", "row"] (defScope s_Program_with_row) := ⟨rfl, rfl, rfl, by decide +kernel, rfl, by decide +kernel, by decide +kernel⟩
abbrev s_names_of : Stmt := top 41
abbrev N_names_of : List Str := ["pairs", "name", "_"]
theorem sc_names_of : FnScope N_names_of ["pairs"] (defScope s_names_of) := ⟨rfl, rfl, rfl, by decide +kernel, rfl, by decide +kernel, by decide +kernel⟩
abbrev s_check_parts : Stmt := top 42
abbrev N_check_parts : List Str := ["words", "sources", "derived", "effects"]
theorem sc_check_parts : FnScope N_check_parts ["words", "sources", "derived", "effects"] (defScope s_check_parts) := ⟨rfl, rfl, rfl, by decide +kernel, rfl, by decide +kernel, by decide +kernel⟩
abbrev s_check_bodies : Stmt := top 43
abbrev N_check_bodies : List Str := ["words", "sources", "derived", "effects", "readable", "index", "name", "rows", "_"]
theorem sc_check_bodies : FnScope N_check_bodies ["words", "sources", "derived", "effects"] (defScope s_check_bodies) := ⟨rfl, rfl, rfl, by decide +kernel, rfl, by decide +kernel, by decide +kernel⟩
abbrev s_check_body : Stmt := top 44
abbrev N_check_body : List Str := ["rows", "scope", "index", "base", "wrong"]
theorem sc_check_body : FnScope N_check_body ["rows", "scope", "index"] (defScope s_check_body) := ⟨rfl, rfl, rfl, by decide +kernel, rfl, by decide +kernel, by decide +kernel⟩
abbrev s_Rule_init : Stmt := inClass (top 48) 0
abbrev N_Rule_init : List Str := ["self", "mode", "cut", "inner"]
theorem sc_Rule_init : FnScope N_Rule_init ["self", "mode", "cut", "inner"] (defScope s_Rule_init) := ⟨rfl, rfl, rfl, by decide +kernel, rfl, by decide +kernel, by decide +kernel⟩
abbrev s_Rule_eq : Stmt := inClass (top 48) 1
abbrev N_Rule_eq : List Str := ["self", "other"]
theorem sc_Rule_eq : FnScope N_Rule_eq ["self", "other"] (defScope s_Rule_eq) := ⟨rfl, rfl, rfl, by decide +kernel, rfl, by decide +kernel, by decide +kernel⟩
abbrev s_all_rules : Stmt := top 49
abbrev N_all_rules : List Str := ["mode", "cut", "inner"]
theorem sc_all_rules : FnScope N_all_rules [] (defScope s_all_rules) := ⟨rfl, rfl, rfl, by decide +kernel, rfl, by decide +kernel, by decide +kernel⟩
abbrev s_law_state : Stmt := top 51
abbrev N_law_state : List Str := ["_law_script"]
theorem sc_law_state : FnScope N_law_state ["_law_script"] (defScope s_law_state) := ⟨rfl, rfl, rfl, by decide +kernel, rfl, by decide +kernel, by decide +kernel⟩
abbrev s_law_draw : Stmt := top 52
abbrev N_law_draw : List Str := ["_law_state_here", "_law_many_here", "_law_cell", "_law_digit", "_law_one", "_law_two", "_law_three"]
theorem sc_law_draw : FnScope N_law_draw ["_law_state_here", "_law_many_here"] (defScope s_law_draw) := ⟨rfl, rfl, rfl, by decide +kernel, rfl, by decide +kernel, by decide +kernel⟩
abbrev s_law_names : Stmt := top 53
abbrev N_law_names : List Str := ["_law_state_here", "_law_many_here", "_law_place", "_law_first", "_law_shared", "_law_base", "_law_letters", "_law_names_here", "_law_k", "_law_other", "_law_size", "_law_name", "_law_at"]
theorem sc_law_names : FnScope N_law_names ["_law_state_here", "_law_many_here"] (defScope s_law_names) := ⟨rfl, rfl, rfl, by decide +kernel, rfl, by decide +kernel, by decide +kernel⟩
abbrev s_law_many : Stmt := top 54
abbrev N_law_many : List Str := ["_law_rows_here", "_law_total", "_law_row_here"]
theorem sc_law_many : FnScope N_law_many ["_law_rows_here"] (defScope s_law_many) := ⟨rfl, rfl, rfl, by decide +kernel, rfl, by decide +kernel, by decide +kernel⟩
abbrev s_law_row : Stmt := top 55
abbrev N_law_row : List Str := ["_law_state_here", "_law_shape", "_law_kind", "_law_slot", "_law_cell"]
theorem sc_law_row : FnScope N_law_row ["_law_state_here", "_law_shape"] (defScope s_law_row) := ⟨rfl, rfl, rfl, by decide +kernel, rfl, by decide +kernel, by decide +kernel⟩
abbrev s_law_rows : Stmt := top 56
abbrev N_law_rows : List Str := ["_law_state_here", "_law_shape", "_law_depth", "_law_room", "_law_rows_here", "_law_left", "_law_turn", "_law_slot", "_law_cell", "_law_word", "_law_yes", "_law_no"]
theorem sc_law_rows : FnScope N_law_rows ["_law_state_here", "_law_shape", "_law_depth", "_law_room"] (defScope s_law_rows) := ⟨rfl, rfl, rfl, by decide +kernel, rfl, by decide +kernel, by decide +kernel⟩
abbrev s_law_parts : Stmt := top 57
abbrev N_law_parts : List Str := ["_law_state_here", "_law_sizes", "_law_peeks", "_law_writes", "_law_many_words", "_law_many_sources", "_law_many_derived", "_law_many_effects", "_law_words", "_law_names_here", "_law_slots", "_law_sources", "_law_shape", "_law_derived", "_law_k", "_law_name", "_law_rows_here", "_law_effects"]
theorem sc_law_parts : FnScope N_law_parts ["_law_state_here", "_law_sizes", "_law_peeks", "_law_writes"] (defScope s_law_parts) := ⟨rfl, rfl, rfl, by decide +kernel, rfl, by decide +kernel, by decide +kernel⟩
abbrev s_law_deed : Stmt := top 58
abbrev N_law_deed : List Str := ["_law_state_here", "_law_parts_here", "_law_kind", "_law_cells", "_law_source", "_law_rest", "_law_writes", "_law_turn", "_law_pair_here"]
theorem sc_law_deed : FnScope N_law_deed ["_law_state_here", "_law_parts_here"] (defScope s_law_deed) := ⟨rfl, rfl, rfl, by decide +kernel, rfl, by decide +kernel, by decide +kernel⟩
abbrev s_law_listed : Stmt := top 59
abbrev N_law_listed : List Str := ["_law_parts_here", "_law_both", "_law_found", "_law_writes", "_law_k", "_law_word", "_law_one", "_law_two", "_law_pair_here"]
theorem sc_law_listed : FnScope N_law_listed ["_law_parts_here", "_law_both"] (defScope s_law_listed) := ⟨rfl, rfl, rfl, by decide +kernel, rfl, by decide +kernel, by decide +kernel⟩
abbrev s_law_bad : Stmt := top 60
abbrev N_law_bad : List Str := ["_law_state_here", "_law_parts_here", "_law_deed_here", "_law_kind", "_law_name", "_law_pair_here"]
theorem sc_law_bad : FnScope N_law_bad ["_law_state_here", "_law_parts_here", "_law_deed_here"] (defScope s_law_bad) := ⟨rfl, rfl, rfl, by decide +kernel, rfl, by decide +kernel, by decide +kernel⟩
abbrev s_law_pair : Stmt := top 61
abbrev N_law_pair : List Str := ["_law_parts_here", "_law_value"]
theorem sc_law_pair : FnScope N_law_pair ["_law_parts_here", "_law_value"] (defScope s_law_pair) := ⟨rfl, rfl, rfl, by decide +kernel, rfl, by decide +kernel, by decide +kernel⟩
abbrev s_law_good : Stmt := top 62
abbrev N_law_good : List Str := ["_law_parts_here", "_law_value", "_law_cells", "_law_seen", "_law_pair_here"]
theorem sc_law_good : FnScope N_law_good ["_law_parts_here", "_law_value"] (defScope s_law_good) := ⟨rfl, rfl, rfl, by decide +kernel, rfl, by decide +kernel, by decide +kernel⟩
abbrev s_law_rule : Stmt := top 63
abbrev N_law_rule : List Str := ["_law_state_here", "_law_mode", "_law_cut"]
theorem sc_law_rule : FnScope N_law_rule ["_law_state_here"] (defScope s_law_rule) := ⟨rfl, rfl, rfl, by decide +kernel, rfl, by decide +kernel, by decide +kernel⟩
abbrev s_law_made : Stmt := top 64
abbrev N_law_made : List Str := ["_law_parts_here", "_law_found", "_law_rule_here", "e"]
theorem sc_law_made : FnScope N_law_made ["_law_parts_here"] (defScope s_law_made) := ⟨rfl, rfl, rfl, by decide +kernel, rfl, by decide +kernel, by decide +kernel⟩
abbrev s_law_fault : Stmt := top 65
abbrev N_law_fault : List Str := ["_law_parts_here"]
theorem sc_law_fault : FnScope N_law_fault ["_law_parts_here"] (defScope s_law_fault) := ⟨rfl, rfl, rfl, by decide +kernel, rfl, by decide +kernel, by decide +kernel⟩
abbrev s_law_first_part : Stmt := top 66
abbrev N_law_first_part : List Str := ["_law_script", "_law_state_here", "_law_many_here", "_law_parts_here", "_law_program", "_law_turn", "_law_found", "_law_deed_here", "_law_bad_here"]
theorem sc_law_first_part : FnScope N_law_first_part ["_law_script"] (defScope s_law_first_part) := ⟨rfl, rfl, rfl, by decide +kernel, rfl, by decide +kernel, by decide +kernel⟩
abbrev s_law_second_part : Stmt := top 67
abbrev N_law_second_part : List Str := ["_law_script", "_law_state_here", "_law_spoils", "_law_first", "_law_second", "_law_bad_here", "_law_place", "_law_values", "_law_fault_here", "_law_one", "_law_two", "_law_turn", "_law_rules", "_law_parts_here", "_law_mode", "_law_cut", "_law_inner", "_law_rule_here"]
theorem sc_law_second_part : FnScope N_law_second_part ["_law_script"] (defScope s_law_second_part) := ⟨rfl, rfl, rfl, by decide +kernel, rfl, by decide +kernel, by decide +kernel⟩
abbrev s_law : Stmt := top 68
abbrev N_law : List Str := ["_law_script"]
theorem sc_law : FnScope N_law ["_law_script"] (defScope s_law) := ⟨rfl, rfl, rfl, by decide +kernel, rfl, by decide +kernel, by decide +kernel⟩
/-- what stands behind the top -/
structure Tops (w : World) (K : PySem.W.Frag) (mg : Str → Option Value) where
  z_isinstance : mg "isinstance" = none
  z_str : mg "str" = none
  z_tuple : mg "tuple" = none
  z_list : mg "list" = none
  z_len : mg "len" = none
  z_all : mg "all" = none
  z_set : mg "set" = none
  z_enumerate : mg "enumerate" = none
  z_range : mg "range" = none
  z_abs : mg "abs" = none
  z_int : mg "int" = none
  z_max : mg "max" = none
  z_dict : mg "dict" = none
  z_zip : mg "zip" = none
  z_bool : mg "bool" = none
  z_any : mg "any" = none
  u_LONGEST_NAME : Tok
  c_LONGEST_NAME : mg "LONGEST_NAME" = some (.int 8 u_LONGEST_NAME)
  u_MOST_ROWS : Tok
  c_MOST_ROWS : mg "MOST_ROWS" = some (.int 16 u_MOST_ROWS)
  u_DEEPEST_IF : Tok
  c_DEEPEST_IF : mg "DEEPEST_IF" = some (.int 3 u_DEEPEST_IF)
  u_LEAST_WORDS : Tok
  c_LEAST_WORDS : mg "LEAST_WORDS" = some (.int 2 u_LEAST_WORDS)
  u_MOST_WORDS : Tok
  c_MOST_WORDS : mg "MOST_WORDS" = some (.int 4 u_MOST_WORDS)
  u_LEAST_SOURCES : Tok
  c_LEAST_SOURCES : mg "LEAST_SOURCES" = some (.int 1 u_LEAST_SOURCES)
  u_MOST_SOURCES : Tok
  c_MOST_SOURCES : mg "MOST_SOURCES" = some (.int 4 u_MOST_SOURCES)
  u_MOST_DERIVED : Tok
  c_MOST_DERIVED : mg "MOST_DERIVED" = some (.int 6 u_MOST_DERIVED)
  u_MOST_EFFECTS : Tok
  c_MOST_EFFECTS : mg "MOST_EFFECTS" = some (.int 4 u_MOST_EFFECTS)
  a_InvalidProgram_init : Addr
  d_InvalidProgram_init : FuncData
  F_InvalidProgram_init : Fun K "__init__" "InvalidProgram.__init__" s_InvalidProgram_init a_InvalidProgram_init d_InvalidProgram_init
  b_InvalidProgram_init : Binds K d_InvalidProgram_init ["self", "part", "path"] []
  a_InvalidRule_init : Addr
  d_InvalidRule_init : FuncData
  F_InvalidRule_init : Fun K "__init__" "InvalidRule.__init__" s_InvalidRule_init a_InvalidRule_init d_InvalidRule_init
  b_InvalidRule_init : Binds K d_InvalidRule_init ["self", "part"] []
  a_InvalidStart_init : Addr
  d_InvalidStart_init : FuncData
  F_InvalidStart_init : Fun K "__init__" "InvalidStart.__init__" s_InvalidStart_init a_InvalidStart_init d_InvalidStart_init
  b_InvalidStart_init : Binds K d_InvalidStart_init ["self", "words"] []
  a_UnknownCell_init : Addr
  d_UnknownCell_init : FuncData
  F_UnknownCell_init : Fun K "__init__" "UnknownCell.__init__" s_UnknownCell_init a_UnknownCell_init d_UnknownCell_init
  b_UnknownCell_init : Binds K d_UnknownCell_init ["self", "name"] []
  a_is_deed : Addr
  d_is_deed : FuncData
  F_is_deed : Fun K "is_deed" "is_deed" s_is_deed a_is_deed d_is_deed
  b_is_deed : Binds K d_is_deed ["program", "value"] []
  m_is_deed : mg "is_deed" = some (.ref a_is_deed)
  a_is_write : Addr
  d_is_write : FuncData
  F_is_write : Fun K "is_write" "is_write" s_is_write a_is_write d_is_write
  b_is_write : Binds K d_is_write ["program", "value"] []
  m_is_write : mg "is_write" = some (.ref a_is_write)
  a_is_batch : Addr
  d_is_batch : FuncData
  F_is_batch : Fun K "is_batch" "is_batch" s_is_batch a_is_batch d_is_batch
  b_is_batch : Binds K d_is_batch ["program", "value"] []
  m_is_batch : mg "is_batch" = some (.ref a_is_batch)
  a_deeds : Addr
  d_deeds : FuncData
  F_deeds : FunD K "deeds" "deeds" (defArgs s_deeds) (defBody s_deeds) (defScope s_deeds) [] [("batches", .bl true)] a_deeds d_deeds
  b_deeds : Binds K d_deeds ["program", "batches"] [.bool true]
  kb_deeds : KBn K d_deeds ["program", "batches"] 1 ["batches"] (fun us ws => us ++ ws) (fun vs zs => vs ++ zs)
  m_deeds : mg "deeds" = some (.ref a_deeds)
  a_pairs_of_writes : Addr
  d_pairs_of_writes : FuncData
  F_pairs_of_writes : Fun K "pairs_of_writes" "pairs_of_writes" s_pairs_of_writes a_pairs_of_writes d_pairs_of_writes
  b_pairs_of_writes : Binds K d_pairs_of_writes ["program", "writes"] []
  m_pairs_of_writes : mg "pairs_of_writes" = some (.ref a_pairs_of_writes)
  a_is_name : Addr
  d_is_name : FuncData
  F_is_name : Fun K "is_name" "is_name" s_is_name a_is_name d_is_name
  b_is_name : Binds K d_is_name ["value"] []
  m_is_name : mg "is_name" = some (.ref a_is_name)
  a_are_names : Addr
  d_are_names : FuncData
  F_are_names : Fun K "are_names" "are_names" s_are_names a_are_names d_are_names
  b_are_names : Binds K d_are_names ["value", "least", "most"] []
  m_are_names : mg "are_names" = some (.ref a_are_names)
  a_are_named_pairs : Addr
  d_are_named_pairs : FuncData
  F_are_named_pairs : Fun K "are_named_pairs" "are_named_pairs" s_are_named_pairs a_are_named_pairs d_are_named_pairs
  b_are_named_pairs : Binds K d_are_named_pairs ["value", "most", "taken"] []
  m_are_named_pairs : mg "are_named_pairs" = some (.ref a_are_named_pairs)
  a_Scope_init : Addr
  d_Scope_init : FuncData
  F_Scope_init : Fun K "__init__" "Scope.__init__" s_Scope_init a_Scope_init d_Scope_init
  b_Scope_init : Binds K d_Scope_init ["self", "kind", "words", "sources", "readable"] []
  a_is_read_row : Addr
  d_is_read_row : FuncData
  F_is_read_row : Fun K "is_read_row" "is_read_row" s_is_read_row a_is_read_row d_is_read_row
  b_is_read_row : Binds K d_is_read_row ["row", "scope"] []
  m_is_read_row : mg "is_read_row" = some (.ref a_is_read_row)
  a_is_put_row : Addr
  d_is_put_row : FuncData
  F_is_put_row : Fun K "is_put_row" "is_put_row" s_is_put_row a_is_put_row d_is_put_row
  b_is_put_row : Binds K d_is_put_row ["row", "scope"] []
  m_is_put_row : mg "is_put_row" = some (.ref a_is_put_row)
  a_is_if_row : Addr
  d_is_if_row : FuncData
  F_is_if_row : Fun K "is_if_row" "is_if_row" s_is_if_row a_is_if_row d_is_if_row
  b_is_if_row : Binds K d_is_if_row ["row", "scope"] []
  m_is_if_row : mg "is_if_row" = some (.ref a_is_if_row)
  a_is_slot_row : Addr
  d_is_slot_row : FuncData
  F_is_slot_row : Fun K "is_slot_row" "is_slot_row" s_is_slot_row a_is_slot_row d_is_slot_row
  b_is_slot_row : Binds K d_is_slot_row ["row", "scope"] []
  m_is_slot_row : mg "is_slot_row" = some (.ref a_is_slot_row)
  a_is_write_row : Addr
  d_is_write_row : FuncData
  F_is_write_row : Fun K "is_write_row" "is_write_row" s_is_write_row a_is_write_row d_is_write_row
  b_is_write_row : Binds K d_is_write_row ["row", "scope"] []
  m_is_write_row : mg "is_write_row" = some (.ref a_is_write_row)
  a_check_of : Addr
  d_check_of : FuncData
  F_check_of : Fun K "check_of" "check_of" s_check_of a_check_of d_check_of
  b_check_of : Binds K d_check_of ["kind", "form"] []
  m_check_of : mg "check_of" = some (.ref a_check_of)
  a_is_valid_row : Addr
  d_is_valid_row : FuncData
  F_is_valid_row : Fun K "is_valid_row" "is_valid_row" s_is_valid_row a_is_valid_row d_is_valid_row
  b_is_valid_row : Binds K d_is_valid_row ["row", "scope", "depth"] []
  m_is_valid_row : mg "is_valid_row" = some (.ref a_is_valid_row)
  a_first_wrong_path : Addr
  d_first_wrong_path : FuncData
  F_first_wrong_path : Fun K "first_wrong_path" "first_wrong_path" s_first_wrong_path a_first_wrong_path d_first_wrong_path
  b_first_wrong_path : Binds K d_first_wrong_path ["rows", "scope", "base", "depth"] []
  m_first_wrong_path : mg "first_wrong_path" = some (.ref a_first_wrong_path)
  a_paths_of_rows : Addr
  d_paths_of_rows : FuncData
  F_paths_of_rows : Fun K "paths_of_rows" "paths_of_rows" s_paths_of_rows a_paths_of_rows d_paths_of_rows
  b_paths_of_rows : Binds K d_paths_of_rows ["rows", "base"] []
  m_paths_of_rows : mg "paths_of_rows" = some (.ref a_paths_of_rows)
  a_Program_init : Addr
  d_Program_init : FuncData
  F_Program_init : Fun K "__init__" "Program.__init__" s_Program_init a_Program_init d_Program_init
  b_Program_init : Binds K d_Program_init ["self", "words", "sources", "derived", "effects"] []
  a_Program_eq : Addr
  d_Program_eq : FuncData
  F_Program_eq : Fun K "__eq__" "Program.__eq__" s_Program_eq a_Program_eq d_Program_eq
  b_Program_eq : Binds K d_Program_eq ["self", "other"] []
  a_Program_cells : Addr
  d_Program_cells : FuncData
  F_Program_cells : Fun K "cells" "Program.cells" s_Program_cells a_Program_cells d_Program_cells
  b_Program_cells : Binds K d_Program_cells ["self"] []
  a_Program_derived_names : Addr
  d_Program_derived_names : FuncData
  F_Program_derived_names : Fun K "derived_names" "Program.derived_names" s_Program_derived_names a_Program_derived_names d_Program_derived_names
  b_Program_derived_names : Binds K d_Program_derived_names ["self"] []
  a_Program_effect_names : Addr
  d_Program_effect_names : FuncData
  F_Program_effect_names : Fun K "effect_names" "Program.effect_names" s_Program_effect_names a_Program_effect_names d_Program_effect_names
  b_Program_effect_names : Binds K d_Program_effect_names ["self"] []
  a_Program_body : Addr
  d_Program_body : FuncData
  F_Program_body : Fun K "body" "Program.body" s_Program_body a_Program_body d_Program_body
  b_Program_body : Binds K d_Program_body ["self", "name"] []
  a_Program_row_paths : Addr
  d_Program_row_paths : FuncData
  F_Program_row_paths : Fun K "row_paths" "Program.row_paths" s_Program_row_paths a_Program_row_paths d_Program_row_paths
  b_Program_row_paths : Binds K d_Program_row_paths ["self"] []
  a_Program_row_at : Addr
  d_Program_row_at : FuncData
  F_Program_row_at : Fun K "row_at" "Program.row_at" s_Program_row_at a_Program_row_at d_Program_row_at
  b_Program_row_at : Binds K d_Program_row_at ["self", "path"] []
  a_Program_with_row : Addr
  d_Program_with_row : FuncData
  F_Program_with_row : Fun K "with_row" "Program.with_row" s_Program_with_row a_Program_with_row d_Program_with_row
  b_Program_with_row : Binds K d_Program_with_row ["self", "path", "row"] []
  a_names_of : Addr
  d_names_of : FuncData
  F_names_of : Fun K "names_of" "names_of" s_names_of a_names_of d_names_of
  b_names_of : Binds K d_names_of ["pairs"] []
  m_names_of : mg "names_of" = some (.ref a_names_of)
  a_check_parts : Addr
  d_check_parts : FuncData
  F_check_parts : Fun K "check_parts" "check_parts" s_check_parts a_check_parts d_check_parts
  b_check_parts : Binds K d_check_parts ["words", "sources", "derived", "effects"] []
  m_check_parts : mg "check_parts" = some (.ref a_check_parts)
  a_check_bodies : Addr
  d_check_bodies : FuncData
  F_check_bodies : Fun K "check_bodies" "check_bodies" s_check_bodies a_check_bodies d_check_bodies
  b_check_bodies : Binds K d_check_bodies ["words", "sources", "derived", "effects"] []
  m_check_bodies : mg "check_bodies" = some (.ref a_check_bodies)
  a_check_body : Addr
  d_check_body : FuncData
  F_check_body : Fun K "check_body" "check_body" s_check_body a_check_body d_check_body
  b_check_body : Binds K d_check_body ["rows", "scope", "index"] []
  m_check_body : mg "check_body" = some (.ref a_check_body)
  a_Rule_init : Addr
  d_Rule_init : FuncData
  F_Rule_init : Fun K "__init__" "Rule.__init__" s_Rule_init a_Rule_init d_Rule_init
  b_Rule_init : Binds K d_Rule_init ["self", "mode", "cut", "inner"] []
  a_Rule_eq : Addr
  d_Rule_eq : FuncData
  F_Rule_eq : Fun K "__eq__" "Rule.__eq__" s_Rule_eq a_Rule_eq d_Rule_eq
  b_Rule_eq : Binds K d_Rule_eq ["self", "other"] []
  a_all_rules : Addr
  d_all_rules : FuncData
  F_all_rules : Fun K "all_rules" "all_rules" s_all_rules a_all_rules d_all_rules
  b_all_rules : Binds K d_all_rules [] []
  m_all_rules : mg "all_rules" = some (.ref a_all_rules)
  a__law_state : Addr
  d__law_state : FuncData
  F__law_state : Fun K "_law_state" "_law_state" s_law_state a__law_state d__law_state
  b__law_state : Binds K d__law_state ["_law_script"] []
  m__law_state : mg "_law_state" = some (.ref a__law_state)
  a__law_draw : Addr
  d__law_draw : FuncData
  F__law_draw : Fun K "_law_draw" "_law_draw" s_law_draw a__law_draw d__law_draw
  b__law_draw : Binds K d__law_draw ["_law_state_here", "_law_many_here"] []
  m__law_draw : mg "_law_draw" = some (.ref a__law_draw)
  a__law_names : Addr
  d__law_names : FuncData
  F__law_names : Fun K "_law_names" "_law_names" s_law_names a__law_names d__law_names
  b__law_names : Binds K d__law_names ["_law_state_here", "_law_many_here"] []
  m__law_names : mg "_law_names" = some (.ref a__law_names)
  a__law_many : Addr
  d__law_many : FuncData
  F__law_many : Fun K "_law_many" "_law_many" s_law_many a__law_many d__law_many
  b__law_many : Binds K d__law_many ["_law_rows_here"] []
  m__law_many : mg "_law_many" = some (.ref a__law_many)
  a__law_row : Addr
  d__law_row : FuncData
  F__law_row : Fun K "_law_row" "_law_row" s_law_row a__law_row d__law_row
  b__law_row : Binds K d__law_row ["_law_state_here", "_law_shape"] []
  m__law_row : mg "_law_row" = some (.ref a__law_row)
  a__law_rows : Addr
  d__law_rows : FuncData
  F__law_rows : Fun K "_law_rows" "_law_rows" s_law_rows a__law_rows d__law_rows
  b__law_rows : Binds K d__law_rows ["_law_state_here", "_law_shape", "_law_depth", "_law_room"] []
  m__law_rows : mg "_law_rows" = some (.ref a__law_rows)
  a__law_parts : Addr
  d__law_parts : FuncData
  F__law_parts : Fun K "_law_parts" "_law_parts" s_law_parts a__law_parts d__law_parts
  b__law_parts : Binds K d__law_parts ["_law_state_here", "_law_sizes", "_law_peeks", "_law_writes"] []
  m__law_parts : mg "_law_parts" = some (.ref a__law_parts)
  a__law_deed : Addr
  d__law_deed : FuncData
  F__law_deed : Fun K "_law_deed" "_law_deed" s_law_deed a__law_deed d__law_deed
  b__law_deed : Binds K d__law_deed ["_law_state_here", "_law_parts_here"] []
  m__law_deed : mg "_law_deed" = some (.ref a__law_deed)
  a__law_listed : Addr
  d__law_listed : FuncData
  F__law_listed : Fun K "_law_listed" "_law_listed" s_law_listed a__law_listed d__law_listed
  b__law_listed : Binds K d__law_listed ["_law_parts_here", "_law_both"] []
  m__law_listed : mg "_law_listed" = some (.ref a__law_listed)
  a__law_bad : Addr
  d__law_bad : FuncData
  F__law_bad : Fun K "_law_bad" "_law_bad" s_law_bad a__law_bad d__law_bad
  b__law_bad : Binds K d__law_bad ["_law_state_here", "_law_parts_here", "_law_deed_here"] []
  m__law_bad : mg "_law_bad" = some (.ref a__law_bad)
  a__law_pair : Addr
  d__law_pair : FuncData
  F__law_pair : Fun K "_law_pair" "_law_pair" s_law_pair a__law_pair d__law_pair
  b__law_pair : Binds K d__law_pair ["_law_parts_here", "_law_value"] []
  m__law_pair : mg "_law_pair" = some (.ref a__law_pair)
  a__law_good : Addr
  d__law_good : FuncData
  F__law_good : Fun K "_law_good" "_law_good" s_law_good a__law_good d__law_good
  b__law_good : Binds K d__law_good ["_law_parts_here", "_law_value"] []
  m__law_good : mg "_law_good" = some (.ref a__law_good)
  a__law_rule : Addr
  d__law_rule : FuncData
  F__law_rule : Fun K "_law_rule" "_law_rule" s_law_rule a__law_rule d__law_rule
  b__law_rule : Binds K d__law_rule ["_law_state_here"] []
  m__law_rule : mg "_law_rule" = some (.ref a__law_rule)
  a__law_made : Addr
  d__law_made : FuncData
  F__law_made : Fun K "_law_made" "_law_made" s_law_made a__law_made d__law_made
  b__law_made : Binds K d__law_made ["_law_parts_here"] []
  m__law_made : mg "_law_made" = some (.ref a__law_made)
  a__law_fault : Addr
  d__law_fault : FuncData
  F__law_fault : Fun K "_law_fault" "_law_fault" s_law_fault a__law_fault d__law_fault
  b__law_fault : Binds K d__law_fault ["_law_parts_here"] []
  m__law_fault : mg "_law_fault" = some (.ref a__law_fault)
  a__law_first_part : Addr
  d__law_first_part : FuncData
  F__law_first_part : Fun K "_law_first_part" "_law_first_part" s_law_first_part a__law_first_part d__law_first_part
  b__law_first_part : Binds K d__law_first_part ["_law_script"] []
  m__law_first_part : mg "_law_first_part" = some (.ref a__law_first_part)
  a__law_second_part : Addr
  d__law_second_part : FuncData
  F__law_second_part : Fun K "_law_second_part" "_law_second_part" s_law_second_part a__law_second_part d__law_second_part
  b__law_second_part : Binds K d__law_second_part ["_law_script"] []
  m__law_second_part : mg "_law_second_part" = some (.ref a__law_second_part)
  a_law : Addr
  d_law : FuncData
  F_law : Fun K "law" "law" s_law a_law d_law
  b_law : Binds K d_law ["_law_script"] []
  m_law : mg "law" = some (.ref a_law)
  c_ToldError : Addr
  m_ToldError : mg "ToldError" = some (.ref c_ToldError)
  c_InvalidProgram : Addr
  m_InvalidProgram : mg "InvalidProgram" = some (.ref c_InvalidProgram)
  c_InvalidRule : Addr
  m_InvalidRule : mg "InvalidRule" = some (.ref c_InvalidRule)
  x_InvalidRule : OexC K c_InvalidRule
  xi_InvalidRule : PySem.W.findIn K (.ref c_InvalidRule) "__init__" = some (some (.ref a_InvalidRule_init))
  xt_InvalidRule : PySem.W.typeIn K (.ref a_InvalidRule_init) = some (.type "function")
  n_InvalidRule_part : PySem.W.findIn K (.ref c_InvalidRule) "part" = some none
  xa_InvalidRule : PySem.W.findIn K (.ref c_InvalidRule) "__getattribute__" = some (some (.builtin "BaseException.__getattribute__"))
  xg_InvalidRule : PySem.W.findIn K (.ref c_InvalidRule) "__getattr__" = some none
  xh_InvalidRule : PySem.W.hasDictIn K c_InvalidRule = true
  xe_InvalidRule : PySem.W.exmOne K (.ref c_InvalidRule) (.ref c_InvalidRule) = some true
  c_InvalidStart : Addr
  m_InvalidStart : mg "InvalidStart" = some (.ref c_InvalidStart)
  c_UnknownCell : Addr
  m_UnknownCell : mg "UnknownCell" = some (.ref c_UnknownCell)
  c_Scope : Addr
  m_Scope : mg "Scope" = some (.ref c_Scope)
  l_Scope : Cls K c_Scope
  k_Scope : Mk K c_Scope a_Scope_init
  n_Scope_kind : NoAttr K c_Scope "kind"
  n_Scope_words : NoAttr K c_Scope "words"
  n_Scope_sources : NoAttr K c_Scope "sources"
  n_Scope_readable : NoAttr K c_Scope "readable"
  c_Program : Addr
  m_Program : mg "Program" = some (.ref c_Program)
  l_Program : Cls K c_Program
  k_Program : Mk K c_Program a_Program_init
  n_Program_words : NoAttr K c_Program "words"
  n_Program_sources : NoAttr K c_Program "sources"
  n_Program_derived : NoAttr K c_Program "derived"
  n_Program_effects : NoAttr K c_Program "effects"
  n_Program__derived_names : NoAttr K c_Program "_derived_names"
  n_Program__effect_names : NoAttr K c_Program "_effect_names"
  t_Program_cells : Meth K c_Program "cells" a_Program_cells
  t_Program_derived_names : Meth K c_Program "derived_names" a_Program_derived_names
  t_Program_effect_names : Meth K c_Program "effect_names" a_Program_effect_names
  t_Program_body : Meth K c_Program "body" a_Program_body
  t_Program_row_paths : Meth K c_Program "row_paths" a_Program_row_paths
  t_Program_row_at : Meth K c_Program "row_at" a_Program_row_at
  t_Program_with_row : Meth K c_Program "with_row" a_Program_with_row
  c_Rule : Addr
  m_Rule : mg "Rule" = some (.ref c_Rule)
  l_Rule : Cls K c_Rule
  k_Rule : Mk K c_Rule a_Rule_init
  n_Rule_mode : NoAttr K c_Rule "mode"
  n_Rule_cut : NoAttr K c_Rule "cut"
  n_Rule_inner : NoAttr K c_Rule "inner"
  i_Rule : C8.InsC K c_Rule
  a_MODES : Addr
  c_MODES : mg "MODES" = some (.ref a_MODES)
  w_MODES : ∀ H : Hp, SqT K H a_MODES [V.str "push", V.str "pull", V.str "level"]
  a_INNERS : Addr
  c_INNERS : mg "INNERS" = some (.ref a_INNERS)
  w_INNERS : ∀ H : Hp, SqT K H a_INNERS [V.str "once", V.str "later"]
  a_DERIVED_FORMS : Addr
  c_DERIVED_FORMS : mg "DERIVED_FORMS" = some (.ref a_DERIVED_FORMS)
  w_DERIVED_FORMS : KTab K w a_DERIVED_FORMS
  w_DERIVED_FORMS_read : KDct K w a_DERIVED_FORMS "read" (.ref a_is_read_row)
  w_DERIVED_FORMS_put : KDct K w a_DERIVED_FORMS "put" (.ref a_is_put_row)
  w_DERIVED_FORMS_if : KDct K w a_DERIVED_FORMS "if" (.ref a_is_if_row)
  w_DERIVED_FORMS_give : KDct K w a_DERIVED_FORMS "give" (.ref a_is_slot_row)
  a_EFFECT_FORMS : Addr
  c_EFFECT_FORMS : mg "EFFECT_FORMS" = some (.ref a_EFFECT_FORMS)
  w_EFFECT_FORMS : KTab K w a_EFFECT_FORMS
  w_EFFECT_FORMS_read : KDct K w a_EFFECT_FORMS "read" (.ref a_is_read_row)
  w_EFFECT_FORMS_peek : KDct K w a_EFFECT_FORMS "peek" (.ref a_is_read_row)
  w_EFFECT_FORMS_put : KDct K w a_EFFECT_FORMS "put" (.ref a_is_put_row)
  w_EFFECT_FORMS_if : KDct K w a_EFFECT_FORMS "if" (.ref a_is_if_row)
  w_EFFECT_FORMS_write : KDct K w a_EFFECT_FORMS "write" (.ref a_is_write_row)
  w_EFFECT_FORMS_say : KDct K w a_EFFECT_FORMS "say" (.ref a_is_slot_row)
  xc_InvalidRule : ExcC K c_InvalidRule
  xk_ToldError : PySem.W.kitOne K (.ref c_InvalidRule) (.ref c_ToldError) = some true
  xk_InvalidStart : PySem.W.kitOne K (.ref c_InvalidRule) (.ref c_InvalidStart) = some false
  xq_Rule : PySem.W.findIn K (.ref c_Rule) "__eq__" = some (some (.ref a_Rule_eq))
  xf_Rule : PySem.W.isFn K (.ref a_Rule_eq) = true
end K09
namespace K09
open PySem PySem.Spec PyProof.Rows L2 Td
/-- the state of the draws at st -/
def stL (sc : Addr) (i d c s : Int) : List V := [.ref sc, .int i, .int d, .int c, .int s]
def StOk (H : Hp) (st sc : Addr) : Prop := ∃ (cs : List Int) (i d c s : Int),
  H st = some (.lst (stL sc i d c s)) ∧ H sc = some (.lst (cs.map V.int)) ∧ 0 ≤ d ∧ 0 ≤ i ∧ i ≤ cs.length ∧ cs.length ≤ 63 ∧ sc ≠ st
def spDraw : Sp := fun vs H Q _ => ∃ (st sc : Addr) (m : Int), vs = [.ref st, .int m] ∧ 0 < m ∧ m < 2 ^ 64 ∧ StOk H st sc ∧
  ∀ (r : Int) (H' : Hp), 0 ≤ r → r < m → Keep st H H' → StOk H' st sc → (∃ L, H' = upd H st (.lst L)) → Q (.int r) H'
def spState (K : PySem.W.Frag) : Sp := fun vs H Q _ => ∃ (a : Addr) (ns : List Int), vs = [.ref a] ∧ SqL K H a (ns.map V.int) ∧ ns.length ≤ 63 ∧
  ∀ (st sc : Addr) (H' : Hp), Same H H' → H st = none → H sc = none → StOk H' st sc → Q (.ref st) H'
section
variable {P : Program} {w : World} {K : PySem.W.Frag} {mg : Str → Option Value} {base : Heap}
theorem ok_draw (T : Tops w K mg) : FnOk P w K mg base CX0 1 T.a__law_draw T.d__law_draw ["_law_state_here", "_law_many_here"] spDraw := by
  refine T.F__law_draw.ok sc_law_draw (fun vs H Q E h => ?_) (fun cdv A outer s H vs Q E hr h => ?_)
  · obtain ⟨st, sc, m, rfl, _⟩ := h
    rfl
  obtain ⟨st, sc, m, rfl, hm0, hm1, ⟨cs, i, d, c, z, h1, h2, hd0, hi0, hi, h63, hne⟩, q⟩ := h
  refine ⟨_, (pss_cons (ps_augS (pv 0) pe_int get_list pe_int ip_add set_list)
    (C8.pss_cut (ps_if (PW.pt (pw_and (pt_cmpR op_eq (pe_ix ix_list (pv 0) pe_int (fun _ _ => rfl)) pe_int (nomark _)) (pw_and1 (pt_cmpR op_lt (pe_ix ix_list (pv 0) pe_int (fun _ _ => rfl)) (pe_callB call_len rfl T.z_len PySem.boot_len (pa_cons (pe_ix ix_list (pv 0) pe_int (fun _ _ => rfl)) pa_nil)) (nomark _))))) (pss_cons (ps_set (i := 2) sc_law_draw.nd rfl (Or.inl rfl) (pe_ix ix_list (pe_ix ix_list (pv 0) pe_int (fun _ _ => rfl)) (pe_ix ix_list (pv 0) pe_int (fun _ _ => rfl)) (fun _ _ => rfl)))
    (pss_cons (ps_augS (pv 0) pe_int get_list pe_int ip_add set_list)
    (pss_one (ps_if (pt_cmpR op_ge (pe_callB call_abs rfl T.z_abs (by decide +kernel) (pa_cons (pv 2) pa_nil)) (pe_op op_pow pe_int pe_int) (nomark _)) (pss_one (ps_asg (pe_callB call_abs rfl T.z_abs (by decide +kernel) (pa_cons (pv 2) pa_nil)) (pg_sub (pv 0) pe_int set_list))) (pss_one (ps_asg (pe_op op_modN (pe_callTy call_int1 rfl T.z_int (by decide +kernel) (pa_cons (pe_op op_add (pe_op op_add (pe_op op_mul (pe_ix ix_list (pv 0) pe_int (fun _ _ => rfl)) pe_int) (pv 2)) pe_int) pa_nil)) pe_int) (pg_sub (pv 0) pe_int set_list))))))) pss_nil)
    (pss_cons (ps_if (pt_cmpR op_gt (pe_ix ix_list (pv 0) pe_int (fun _ _ => rfl)) pe_int (nomark _)) (pss_cons (ps_set (i := 3) sc_law_draw.nd rfl (Or.inl rfl) (pe_op op_modN (pe_callTy call_int1 rfl T.z_int (by decide +kernel) (pa_cons (pe_ix ix_list (pv 0) pe_int (fun _ _ => rfl)) pa_nil)) (pv 1)))
    (pss_cons (ps_asg (pe_op op_fdivW (pe_ix ix_list (pv 0) pe_int (fun _ _ => rfl)) (pv 1)) (pg_sub (pv 0) pe_int set_list))
    (pss_one (ps_ret (pv 3))))) pss_nil)
    (pss_cons (ps_set (i := 4) sc_law_draw.nd rfl (Or.inl rfl) (pe_op op_modN (pe_callTy call_int1 rfl T.z_int (by decide +kernel) (pa_cons (pe_op op_mul (pe_op op_add (pe_op op_add (pe_ix ix_list (pv 0) pe_int (fun _ _ => rfl)) (pe_op op_mul pe_int (pe_ix ix_list (pv 0) pe_int (fun _ _ => rfl)))) pe_int) pe_int) pa_nil)) pe_int))
    (pss_cons (ps_set (i := 5) sc_law_draw.nd rfl (Or.inl rfl) (pe_op op_modN (pe_callTy call_int1 rfl T.z_int (by decide +kernel) (pa_cons (pe_op op_mul (pv 4) (pe_op op_add (pe_op op_fdivW (pv 4) pe_int) pe_int)) pa_nil)) pe_int))
    (pss_cons (ps_set (i := 6) sc_law_draw.nd rfl (Or.inl rfl) (pe_op op_modN (pe_callTy call_int1 rfl T.z_int (by decide +kernel) (pa_cons (pe_op op_mul (pv 5) (pe_op op_add (pe_op op_fdivW (pv 5) pe_int) pe_int)) pa_nil)) pe_int))
    (pss_one (ps_ret (pe_op op_modN (pe_callTy call_int1 rfl T.z_int (by decide +kernel) (pa_cons (pe_op op_fdivW (pv 6) pe_int) pa_nil)) (pv 1)))))))))), ?_⟩
  -- state[3] += 1
  refine ⟨_, rfl, st, _, 3, _, rfl, rfl, SqL.of h1, rfl, _, _, rfl, rfl, st, _, _, 3, rfl, rfl, h1, rfl, ?_⟩
  have k1 : Keep st H (upd H st (.lst (stL sc i d (c + 1) z))) := Keep.upd
  have e1 : upd H st (.lst (stL sc i d (c + 1) z)) st = some (.lst (stL sc i d (c + 1) z)) := upd_same
  have e2 : upd H st (.lst (stL sc i d (c + 1) z)) sc = some (.lst (cs.map V.int)) := k1 _ _ hne h2
  show C8.tCut _ _ _ _ (upd H st (.lst (stL sc i d (c + 1) z)))
  refine ⟨fun σ' H' => ∃ (v : Option V) (i' d' z' : Int), σ' = [some (.ref st), some (.int m), v, none, none, none, none] ∧
    H' = upd H st (.lst (stL sc i' d' (c + 1) z')) ∧ 0 ≤ d' ∧ 0 ≤ i' ∧ i' ≤ cs.length, ?_, ?_⟩
  · -- if state[2] == 0 and state[1] < len(state[0])
    refine ⟨_, rfl, st, _, 2, _, rfl, rfl, SqL.of e1, rfl, rfl, _, rfl, ?_⟩
    refine ite2 (fun c1 => ?_) (fun _ => iteF ⟨none, i, d, z, rfl, rfl, hd0, hi0, hi⟩)
    refine ⟨_, rfl, st, _, 1, _, rfl, rfl, SqL.of e1, rfl, _, rfl, st, _, 0, _, rfl, rfl, SqL.of e1, rfl, _, (cs.map V.int).length, rfl, .inl ⟨_, SqL.of e2, rfl⟩, _, _, rfl, rfl, _, rfl, ?_⟩
    refine ite2 (fun c2 => ?_) (fun _ => ⟨none, i, d, z, rfl, rfl, hd0, hi0, hi⟩)
    have hlt : i.toNat < cs.length := by
      have := of_decide_eq_true c2
      rw [List.length_map] at this
      omega
    have hat : atI (cs.map V.int) i = some (V.int cs[i.toNat]) := by
      have : atI (cs.map V.int) ((i.toNat : Nat) : Int) = some (V.int cs[i.toNat]) := atI_nat (by rw [List.getElem?_map, List.getElem?_eq_getElem hlt]; rfl)
      rwa [show ((i.toNat : Nat) : Int) = i by omega] at this
    -- cell = state[0][state[1]]; state[1] += 1
    refine ⟨_, rfl, st, _, 0, _, rfl, rfl, SqL.of e1, rfl, _, rfl, st, _, 1, _, rfl, rfl, SqL.of e1, rfl, sc, _, i, V.int cs[i.toNat], rfl, rfl, SqL.of e2, hat, ?_⟩
    refine ⟨_, rfl, st, _, 1, _, rfl, rfl, SqL.of e1, rfl, _, _, rfl, rfl, st, _, _, 1, rfl, rfl, e1, rfl, ?_⟩
    rw [upd_upd]
    have e3 : upd H st (.lst (stL sc (i + 1) d (c + 1) z)) st = some (.lst (stL sc (i + 1) d (c + 1) z)) := upd_same
    rw [show upd H st (.lst ((stL sc i d (c + 1) z).set 1 (V.int ((fun i j => i + j) i 1)))) = upd H st (.lst (stL sc (i + 1) d (c + 1) z)) from rfl]
    -- if abs(cell) >= 10 ** 18
    refine ⟨_, rfl, _, rfl, _, _, rfl, rfl, ⟨by decide, by decide, by decide⟩, _, _, rfl, rfl, _, rfl, ?_⟩
    refine ite2 (fun _ => ?_) (fun _ => ?_)
    · refine ⟨_, rfl, _, rfl, _, rfl, st, _, 2, 2, rfl, rfl, e3, rfl, ?_⟩
      rw [upd_upd]
      exact ⟨_, i + 1, _, z, rfl, rfl, by split <;> omega, by omega, by omega⟩
    · refine ⟨_, rfl, st, _, 4, _, rfl, rfl, SqL.of e3, rfl, _, _, rfl, rfl, .inr ⟨by decide, by decide⟩, _, rfl, _, _, rfl, rfl, _, _, rfl, rfl, .inl ⟨_, rfl, ?_⟩⟩
      refine ⟨_, _, rfl, rfl, (by show (2147483647 : Int) ≠ 0; decide), _, rfl, st, _, 4, 4, rfl, rfl, e3, rfl, ?_⟩
      rw [upd_upd]
      exact ⟨_, i + 1, _, _, rfl, rfl, hd0, by omega, by omega⟩
  · rintro σ' H' ⟨v, i', d', z', rfl, rfl, hd', hi0', hi'⟩
    have e3 : upd H st (.lst (stL sc i' d' (c + 1) z')) st = some (.lst (stL sc i' d' (c + 1) z')) := upd_same
    have e4 : ∀ i2 d2 c2 z2, upd H st (.lst (stL sc i2 d2 c2 z2)) sc = some (.lst (cs.map V.int)) := fun i2 d2 c2 z2 => by rw [upd_ne hne]; exact h2
    have fin : ∀ (r : Int) (d2 : Int), 0 ≤ d2 → 0 ≤ r → r < m → Q (.int r) (upd H st (.lst (stL sc i' d2 (c + 1) z'))) := fun r d2 h0 hr0 hr1 =>
      q r _ hr0 hr1 Keep.upd ⟨cs, i', d2, c + 1, z', upd_same, e4 _ _ _ _, h0, hi0', hi', h63, hne⟩ ⟨_, rfl⟩
    -- if state[2] > 0
    refine ⟨_, rfl, st, _, 2, _, rfl, rfl, SqL.of e3, rfl, _, _, rfl, rfl, _, rfl, ?_⟩
    refine ite2 (fun _ => ?_) (fun _ => ?_)
    · refine ⟨_, rfl, st, _, 2, _, rfl, rfl, SqL.of e3, rfl, .inl ⟨_, rfl, _, rfl, _, _, rfl, rfl, by omega, ?_⟩⟩
      refine ⟨_, rfl, st, _, 2, _, rfl, rfl, SqL.of e3, rfl, _, rfl, _, _, rfl, rfl, wide_div (b := 64) hm0 (by omega) (by decide) (by decide), ?_⟩
      refine ⟨_, rfl, st, _, 2, 2, rfl, rfl, e3, rfl, ?_⟩
      rw [upd_upd]
      refine ⟨_, rfl, fin _ _ (Int.ediv_nonneg hd' (Int.le_of_lt hm0)) ?_ ?_⟩
      · rw [Int.fmod_eq_emod_of_nonneg _ (Int.le_of_lt hm0)]; exact Int.emod_nonneg _ (by omega)
      · rw [Int.fmod_eq_emod_of_nonneg _ (Int.le_of_lt hm0)]; exact Int.emod_lt_of_pos _ hm0
    · -- one, two, three
      refine ⟨_, rfl, st, _, 4, _, rfl, rfl, SqL.of e3, rfl, _, rfl, st, _, 3, _, rfl, rfl, SqL.of e3, rfl, _, _, rfl, rfl, .inl ⟨by decide, by decide⟩, _, _, rfl, rfl, _, _, rfl, rfl, _, _, rfl, rfl, .inr ⟨by decide, by decide⟩, .inl ⟨_, rfl, _, _, rfl, rfl, (by show (2147483647 : Int) ≠ 0; decide), ?_⟩⟩
      dsimp only
      generalize hx : Int.fmod ((z' + 7919 * (c + 1) + 1) * 48271) 2147483647 = one
      have o0 : 0 ≤ one ∧ one < 2147483647 := by
        rw [← hx, Int.fmod_eq_emod_of_nonneg _ (by decide)]
        exact ⟨Int.emod_nonneg _ (by decide), Int.emod_lt_of_pos _ (by decide)⟩
      refine ⟨_, rfl, _, rfl, _, _, rfl, rfl, wide_div (b := 64) (by decide) (by decide) (by decide) (by decide), _, _, rfl, rfl, _, _, rfl, rfl, .inl ⟨by omega, by omega⟩, .inl ⟨_, rfl, _, _, rfl, rfl, (by show (2147483647 : Int) ≠ 0; decide), ?_⟩⟩
      dsimp only
      generalize hy : Int.fmod (one * (one / 1009 + 69621)) 2147483647 = two
      have t0 : 0 ≤ two ∧ two < 2147483647 := by
        rw [← hy, Int.fmod_eq_emod_of_nonneg _ (by decide)]
        exact ⟨Int.emod_nonneg _ (by decide), Int.emod_lt_of_pos _ (by decide)⟩
      refine ⟨_, rfl, _, rfl, _, _, rfl, rfl, wide_div (b := 64) (by decide) (by decide) (by decide) (by decide), _, _, rfl, rfl, _, _, rfl, rfl, .inl ⟨by omega, by omega⟩, .inl ⟨_, rfl, _, _, rfl, rfl, (by show (2147483399 : Int) ≠ 0; decide), ?_⟩⟩
      refine ⟨_, rfl, _, _, rfl, rfl, wide_div (b := 64) (by decide) (by decide) (by decide) (by decide), .inl ⟨_, rfl, _, rfl, _, _, rfl, rfl, by omega, ?_⟩⟩
      refine fin _ _ hd' ?_ ?_
      · rw [Int.fmod_eq_emod_of_nonneg _ (Int.le_of_lt hm0)]; exact Int.emod_nonneg _ (by omega)
      · rw [Int.fmod_eq_emod_of_nonneg _ (Int.le_of_lt hm0)]; exact Int.emod_lt_of_pos _ hm0
end
end K09
namespace K09
open PySem PySem.Spec PyProof.Rows L2 Td
/-! ### the letters -/
def abc : Str := "abcdefghijklmnopqrstuvwxyz"
theorem abc_list : abc.cps.toList = List.range' 97 26 := by decide +kernel
theorem abc_len : abc.length ≤ sizeLine := by
  rw [show abc.length = 26 by decide +kernel]; decide
theorem abc_at {i : Int} (h0 : 0 ≤ i) (h1 : i < 26) : atI abc.cps.toList i = some (97 + i.toNat) := by
  have : atI abc.cps.toList ((i.toNat : Nat) : Int) = some (97 + i.toNat) := atI_nat (by
    rw [abc_list, List.getElem?_range' (by omega), Nat.one_mul])
  rwa [show ((i.toNat : Nat) : Int) = i by omega] at this
theorem add_len (z : Str) (c : Nat) : (z ++ (⟨#[c]⟩ : Str)).length = z.length + 1 := by
  show (z.cps ++ #[c]).size = z.cps.size + 1
  simp
theorem add_low {z : Str} {c : Nat} (h : z.cps.toList.all lowc = true) (hc : lowc c = true) : (z ++ (⟨#[c]⟩ : Str)).cps.toList.all lowc = true := by
  show (z.cps ++ #[c]).toList.all lowc = true
  simp [List.all_append] at h ⊢
  exact ⟨h, hc⟩
theorem add_old {z : Str} {c j x : Nat} (h : z.cps[j]? = some x) : (z ++ (⟨#[c]⟩ : Str)).cps[j]? = some x := by
  show (z.cps ++ #[c])[j]? = some x
  have := (Array.getElem?_eq_some_iff.mp h).1
  rw [Array.getElem?_append_left this]; exact h
theorem add_new (z : Str) (c : Nat) : (z ++ (⟨#[c]⟩ : Str)).cps[z.length]? = some c := by
  show (z.cps ++ #[c])[z.cps.size]? = some c
  simp
theorem low_of {i : Int} (h0 : 0 ≤ i) (h1 : i < 26) : lowc (97 + i.toNat) = true := by
  unfold lowc
  simp
  omega
/-- what the names of one drawing have in common: at the place p stands the k-th letter -/
def letK (first k : Nat) : Nat := 97 + (first + 7 * k) % 26
structure NamesAt (p first : Nat) (ns : List Str) : Prop where
  good : ∀ z ∈ ns, isNm z = true
  at_ : ∀ (j : Nat) (z : Str), ns[j]? = some z → z.cps[p]? = some (letK first j)
theorem NamesAt.nodup {p first : Nat} {ns : List Str} (h : NamesAt p first ns) (hl : ns.length ≤ 26) : ns.Nodup := by
  rw [List.Nodup, List.pairwise_iff_getElem]
  intro i j hi hj hij e3
  have e1 := h.at_ i ns[i] (List.getElem?_eq_getElem hi)
  have e2 := h.at_ j ns[j] (List.getElem?_eq_getElem hj)
  rw [e3, e2] at e1
  have := Option.some.inj e1
  unfold letK at this
  omega
theorem NamesAt.snoc {p first : Nat} {ns : List Str} {z : Str} (h : NamesAt p first ns) (hz : isNm z = true) (ha : z.cps[p]? = some (letK first ns.length)) : NamesAt p first (ns ++ [z]) := by
  refine ⟨fun y hy => ?_, fun j y hy => ?_⟩
  · rcases List.mem_append.mp hy with q | q
    · exact h.good y q
    · rw [List.mem_singleton.mp q]; exact hz
  · by_cases hj : j < ns.length
    · rw [List.getElem?_append_left hj] at hy
      exact h.at_ j y hy
    · rw [List.getElem?_append_right (by omega)] at hy
      have : j = ns.length := by
        rcases Nat.lt_or_ge 0 (j - ns.length) with c | c
        · rw [List.getElem?_eq_none (by simp; omega)] at hy; cases hy
        · omega
      subst this
      simp at hy
      rw [← hy]; exact ha
def spNames : Sp := fun vs H Q _ => ∃ (st sc : Addr) (n : Int), vs = [.ref st, .int n] ∧ 0 ≤ n ∧ n ≤ 20 ∧ StOk H st sc ∧
  ∀ (p : Addr) (ns : List Str) (H' : Hp), Keep st H H' → StOk H' st sc → H p = none → p ≠ st → p ≠ sc → H' p = some (.lst (ns.map V.str)) → (ns.length : Int) = n → Names ns → Q (.ref p) H'
theorem StOk.at {H : Hp} {st sc : Addr} (h : StOk H st sc) : ∃ L, H st = some (.lst L) := by
  obtain ⟨cs, i, d, c, s, h1, _⟩ := h
  exact ⟨_, h1⟩
theorem StOk.scat {H : Hp} {st sc : Addr} (h : StOk H st sc) : ∃ L, H sc = some (.lst L) := by
  obtain ⟨cs, i, d, c, s, h1, h2, _⟩ := h
  exact ⟨_, h2⟩
theorem StOk.other {H : Hp} {st sc p : Addr} {o : HO} (h : StOk H st sc) (hp : p ≠ st) (hq : p ≠ sc) : StOk (upd H p o) st sc := by
  obtain ⟨cs, i, d, c, s, h1, h2, r⟩ := h
  exact ⟨cs, i, d, c, s, by rw [upd_ne (Ne.symm hp)]; exact h1, by rw [upd_ne (Ne.symm hq)]; exact h2, r⟩
theorem StOk.ne {H : Hp} {st sc p : Addr} (h : StOk H st sc) (hp : H p = none) : p ≠ st ∧ p ≠ sc := by
  obtain ⟨L, h1⟩ := h.at
  obtain ⟨M, h2⟩ := h.scat
  exact ⟨Ne.symm (ne_of_none h1 hp), Ne.symm (ne_of_none h2 hp)⟩
theorem StOk.new {H : Hp} {st sc p : Addr} {o : HO} (h : StOk H st sc) (hp : H p = none) : StOk (upd H p o) st sc :=
  h.other (h.ne hp).1 (h.ne hp).2
section
variable {P : Program} {w : World} {K : PySem.W.Frag} {mg : Str → Option Value} {base : Heap}
theorem ok_state (T : Tops w K mg) : FnOk P w K mg base CX0 1 T.a__law_state T.d__law_state ["_law_script"] (spState K) := by
  refine T.F__law_state.ok sc_law_state (fun vs H Q E h => ?_) (fun cdv A outer s H vs Q E hr h => ?_)
  · obtain ⟨a, ns, rfl, _⟩ := h
    rfl
  obtain ⟨a, ns, rfl, hS, hl, q⟩ := h
  refine ⟨_, (pss_one (ps_ret (pe_lst (pa_cons (pe_callTy call_list_of rfl T.z_list (by decide +kernel) (pa_cons (pe_slice sl_list (pv 0) po_none (po_some pe_int)) pa_nil)) (pa_cons pe_int (pa_cons pe_int (pa_cons pe_int (pa_cons pe_int pa_nil)))))))), ?_⟩
  have hcut : cutV (ns.map V.int) none (some 63) = ns.map V.int := by
    unfold cutV
    rw [HT.sIx_none, show HT.sIx (ns.map V.int).length (ns.map V.int).length (some 63) = min 63 (ns.map V.int).length from HT.sIx_nat _ _ 63]
    rw [List.drop_zero, List.take_of_length_le (by rw [List.length_map]; omega)]
  refine ⟨_, rfl, 63, rfl, a, _, rfl, hS, fun p hp => ⟨p, _, rfl, .inl (SqL.of upd_same), fun l hl2 => ⟨by show 5 ≤ sizeLine; decide, fun st hst => ?_⟩⟩⟩
  rw [hcut] at hl2 hst ⊢
  have npl : p ≠ l := fun e => by rw [e, upd_same] at hl2; cases hl2
  have hl0 : H l = none := by rw [upd_ne (Ne.symm npl)] at hl2; exact hl2
  have nls : l ≠ st := fun e => by rw [e, upd_same] at hst; cases hst
  have hst2 : H st = none := by
    rw [upd_ne (Ne.symm nls)] at hst
    by_cases c : st = p
    · rw [c, upd_same] at hst; cases hst
    · rw [upd_ne c] at hst; exact hst
  refine q st l _ (fun b o e => ?_) hst2 hl0 ⟨ns, 0, 0, 0, 1, upd_same, by rw [upd_ne nls, upd_same], by decide, by decide, by omega, hl, nls⟩
  rw [upd_ne (ne_of_none e hst2), upd_ne (ne_of_none e hl0), upd_ne (ne_of_none e hp)]
  exact e
theorem ok_names (T : Tops w K mg) (G__law_draw : FnOk P w K mg base CX0 1 T.a__law_draw T.d__law_draw ["_law_state_here", "_law_many_here"] spDraw) :
    FnOk P w K mg base CX0 2 T.a__law_names T.d__law_names ["_law_state_here", "_law_many_here"] spNames := by
  refine T.F__law_names.ok sc_law_names (fun vs H Q E h => ?_) (fun cdv A outer s H vs Q E hr h => ?_)
  · obtain ⟨st, sc, m, rfl, _⟩ := h
    rfl
  obtain ⟨st, sc, n, rfl, hn0, hn1, hst, q⟩ := h
  refine ⟨_, (pss_cons (ps_set (i := 2) sc_law_names.nd rfl (Or.inl rfl) (pe_call G__law_draw (hr.mono (by omega)) rfl T.m__law_draw T.F__law_draw.kp T.b__law_draw .nil pass0 (pa_cons (pv 0) (pa_cons pe_int pa_nil))))
    (pss_cons (ps_set (i := 3) sc_law_names.nd rfl (Or.inl rfl) (pe_call G__law_draw (hr.mono (by omega)) rfl T.m__law_draw T.F__law_draw.kp T.b__law_draw .nil pass0 (pa_cons (pv 0) (pa_cons pe_int pa_nil))))
    (pss_cons (ps_set (i := 4) sc_law_names.nd rfl (Or.inl rfl) (pe_call G__law_draw (hr.mono (by omega)) rfl T.m__law_draw T.F__law_draw.kp T.b__law_draw .nil pass0 (pa_cons (pv 0) (pa_cons pe_int pa_nil))))
    (pss_cons (ps_set (i := 5) sc_law_names.nd rfl (Or.inl rfl) (pe_call G__law_draw (hr.mono (by omega)) rfl T.m__law_draw T.F__law_draw.kp T.b__law_draw .nil pass0 (pa_cons (pv 0) (pa_cons (pe_op op_pow pe_int pe_int) pa_nil))))
    (pss_cons (ps_set (i := 6) sc_law_names.nd rfl (Or.inl rfl) pe_str)
    (pss_cons (ps_set (i := 7) sc_law_names.nd rfl (Or.inl rfl) (pe_lst pa_nil))
    (pss_cons (ps_for PassesOwn.never rfl (pi_range1 rfl T.z_range (pa_cons (pv 1) pa_nil)) (pg_name (i := 8) sc_law_names.nd rfl (Or.inl rfl)) (pss_cons (ps_set (i := 9) sc_law_names.nd rfl (Or.inl rfl) (pv 5))
    (pss_cons (ps_set (i := 10) sc_law_names.nd rfl (Or.inl rfl) (pe_op op_add (pv 2) pe_int))
    (C8.pss_cut (ps_if (pt_cmpR op_eq (pv 4) pe_int (nomark _)) (pss_cons (ps_set (i := 9) sc_law_names.nd rfl (Or.inl rfl) (pe_call G__law_draw (hr.mono (by omega)) rfl T.m__law_draw T.F__law_draw.kp T.b__law_draw .nil pass0 (pa_cons (pv 0) (pa_cons (pe_op op_pow pe_int pe_int) pa_nil))))
    (pss_one (ps_set (i := 10) sc_law_names.nd rfl (Or.inl rfl) (pe_op op_add (pe_op op_add (pv 2) pe_int) (pe_call G__law_draw (hr.mono (by omega)) rfl T.m__law_draw T.F__law_draw.kp T.b__law_draw .nil pass0 (pa_cons (pv 0) (pa_cons (pe_op op_sub pe_int (pv 2)) pa_nil))))))) pss_nil)
    (pss_cons (ps_set (i := 11) sc_law_names.nd rfl (Or.inl rfl) pe_str)
    (pss_cons (ps_for PassesOwn.never rfl (pi_range1 rfl T.z_range (pa_cons (pv 10) pa_nil)) (pg_name (i := 12) sc_law_names.nd rfl (Or.inl rfl)) (pss_one (ps_if (pt_cmpR op_eq (pv 12) (pv 2) (nomark _)) (pss_one (ps_set (i := 11) sc_law_names.nd rfl (Or.inl rfl) (pe_op op_add_str (pv 11) (pe_ix ix_str (pv 6) (pe_op op_modN (pe_callTy call_int1 rfl T.z_int (by decide +kernel) (pa_cons (pe_op op_add (pv 3) (pe_op op_mul pe_int (pv 8))) pa_nil)) pe_int) (fun _ _ => rfl))))) (pss_cons (ps_set (i := 11) sc_law_names.nd rfl (Or.inl rfl) (pe_op op_add_str (pv 11) (pe_ix ix_str (pv 6) (pe_op op_modN (pe_callTy call_int1 rfl T.z_int (by decide +kernel) (pa_cons (pv 9) pa_nil)) pe_int) (fun _ _ => rfl))))
    (pss_one (ps_set (i := 9) sc_law_names.nd rfl (Or.inl rfl) (pe_op op_fdivW (pv 9) pe_int)))))))
    (pss_one (ps_expr (pe_bm PySem.F.plainAttrs_list PySem.F.slot_list_append PySem.F.type_list_append mt_append (pv 7) (pa_cons (pv 11) pa_nil))))))))))
    (pss_one (ps_ret (pv 7)))))))))), ?_⟩
  refine ⟨_, rfl, st, sc, 8, rfl, by decide, by decide, hst, fun pl H1 pl0 pl1 k1 s1 _ => ?_⟩
  refine ⟨_, rfl, st, sc, 26, rfl, by decide, by decide, s1, fun fi H2 fi0 fi1 k2 s2 _ => ?_⟩
  refine ⟨_, rfl, st, sc, 2, rfl, by decide, by decide, s2, fun sh H3 sh0 sh1 k3 s3 _ => ?_⟩
  refine ⟨_, rfl, _, _, rfl, rfl, ⟨by decide, by decide, by decide⟩, st, sc, _, rfl, by decide, by decide, s3, fun ba H4 ba0 ba1 k4 s4 _ => ?_⟩
  have k04 : Keep st H H4 := k1.trans (k2.trans (k3.trans k4))
  refine ⟨Nat.zero_le _, fun p hp => ?_⟩
  obtain ⟨nps, npc⟩ := s4.ne hp
  have hp0 : H p = none := k04.free nps hp
  refine ⟨_, rfl, n, rfl, by omega, by omega, for_range (lo := 0) (n := n.toNat) (fun i σ H' => ∃ (v8 v9 v10 v11 v12 : Option V) (ns : List Str),
    σ = [some (.ref st), some (.int n), some (.int pl), some (.int fi), some (.int sh), some (.int ba), some (.str abc), some (.ref p), v8, v9, v10, v11, v12] ∧
    Keep st H H' ∧ StOk H' st sc ∧ H' p = some (.lst (ns.map V.str)) ∧ ns.length = i ∧ NamesAt pl.toNat fi.toNat ns)
    ⟨none, none, none, none, none, [], rfl, k04.trans (Keep.new hp), s4.new hp, upd_same, rfl, ⟨fun z h => (List.not_mem_nil h).elim, fun j z h => by simp at h⟩⟩ ?_ ?_⟩
  · rintro i σ H' hi ⟨v8, v9, v10, v11, v12, ns, rfl, kH, sH, hpH, hlen, hN⟩
    refine ⟨_, rfl, _, rfl, _, _, rfl, rfl, ?_⟩
    refine ⟨fun σ' H'' => ∃ (o sz : Int), σ' = [some (.ref st), some (.int n), some (.int pl), some (.int fi), some (.int sh), some (.int ba), some (.str abc), some (.ref p), some (.int (0 + i)), some (.int o), some (.int sz), v11, v12] ∧
      Keep st H H'' ∧ StOk H'' st sc ∧ H'' p = some (.lst (ns.map V.str)) ∧ 0 ≤ o ∧ pl + 1 ≤ sz ∧ sz ≤ 8, ?_, ?_⟩
    · refine ⟨_, rfl, rfl, _, rfl, ?_⟩
      refine ite2 (fun _ => ?_) (fun _ => ⟨ba, pl + 1, rfl, kH, sH, hpH, ba0, by omega, by omega⟩)
      refine ⟨_, rfl, _, _, rfl, rfl, ⟨by decide, by decide, by decide⟩, st, sc, _, rfl, by decide, by decide, sH, fun o H5 o0 o1 k5 s5 _ => ?_⟩
      refine ⟨_, rfl, _, _, rfl, rfl, _, rfl, _, rfl, _, _, rfl, rfl, st, sc, _, rfl, by omega, by omega, s5, fun sz H6 z0 z1 k6 s6 _ => ⟨_, _, rfl, rfl, ?_⟩⟩
      exact ⟨o, _, rfl, kH.trans (k5.trans k6), s6, k6 _ _ nps (k5 _ _ nps hpH), o0, by omega, by omega⟩
    · rintro σ' H'' ⟨o, sz, rfl, kJ, sJ, hpJ, o0, sz0, sz1⟩
      -- name = ''; for at in range(size)
      refine ⟨_, rfl, sz, rfl, by omega, by omega, for_range (lo := 0) (n := sz.toNat) (fun j σ H5 => ∃ (o : Int) (z : Str) (v12 : Option V),
        σ = [some (.ref st), some (.int n), some (.int pl), some (.int fi), some (.int sh), some (.int ba), some (.str abc), some (.ref p), some (.int (0 + i)), some (.int o), some (.int sz), some (.str z), v12] ∧
        H5 = H'' ∧ 0 ≤ o ∧ z.length = j ∧ z.cps.toList.all lowc = true ∧ (pl.toNat < j → z.cps[pl.toNat]? = some (letK fi.toNat i)))
        ⟨o, "", v12, rfl, rfl, o0, by decide +kernel, by decide +kernel, fun h => by omega⟩ ?_ ?_⟩
      · rintro j σ H5 hj ⟨o, z, v12, rfl, rfl, o0, zl, za, zp⟩
        have zsz : z.length + 1 ≤ sizeLine := Nat.le_of_lt (small1000 (by omega))
        refine ⟨_, rfl, _, rfl, rfl, _, rfl, ?_⟩
        refine ite2 (fun c => ?_) (fun c => ?_)
        · have c' : (V.int (0 + (j : Int))) = V.int pl := of_decide_eq_true c
          have cj : (0 : Int) + (j : Int) = pl := by injection c'
          have m0 : 0 ≤ Int.fmod (fi + 7 * (0 + (i : Int))) 26 ∧ Int.fmod (fi + 7 * (0 + (i : Int))) 26 < 26 := by
            rw [Int.fmod_eq_emod_of_nonneg _ (by decide)]
            exact ⟨Int.emod_nonneg _ (by decide), Int.emod_lt_of_pos _ (by decide)⟩
          have mk : (Int.fmod (fi + 7 * (0 + (i : Int))) 26).toNat = (fi.toNat + 7 * i) % 26 := by
            rw [Int.fmod_eq_emod_of_nonneg _ (by decide)]
            omega
          refine ⟨_, rfl, _, rfl, _, rfl, _, rfl, _, _, rfl, rfl, .inl ⟨by decide, by decide⟩, _, _, rfl, rfl, .inl ⟨_, rfl, _, _, rfl, rfl, (by show (26 : Int) ≠ 0; decide), abc, _, _, rfl, rfl, abc_len, abc_at m0.1 m0.2, _, _, rfl, rfl, zsz, ?_⟩⟩
          refine ⟨o, _, _, rfl, rfl, o0, by rw [add_len, zl], add_low za (low_of m0.1 m0.2), fun _ => ?_⟩
          have hz : z.length = pl.toNat := by omega
          have e := add_new z (97 + (Int.fmod (fi + 7 * (0 + (i : Int))) 26).toNat)
          rw [hz, mk] at e
          unfold letK
          rw [mk]
          exact e
        · have m0 : 0 ≤ Int.fmod o 26 ∧ Int.fmod o 26 < 26 := by
            rw [Int.fmod_eq_emod_of_nonneg _ (by decide)]
            exact ⟨Int.emod_nonneg _ (by decide), Int.emod_lt_of_pos _ (by decide)⟩
          refine ⟨_, rfl, _, rfl, _, rfl, .inl ⟨_, rfl, _, _, rfl, rfl, (by show (26 : Int) ≠ 0; decide), abc, _, _, rfl, rfl, abc_len, abc_at m0.1 m0.2, _, _, rfl, rfl, zsz, ?_⟩⟩
          refine ⟨_, rfl, _, _, rfl, rfl, wide_div (b := 64) (by decide) (by decide) (by decide) (by decide), ?_⟩
          refine ⟨o / 26, _, _, rfl, rfl, Int.ediv_nonneg o0 (by decide), by rw [add_len, zl], add_low za (low_of m0.1 m0.2), fun hlt => ?_⟩
          have hne : ¬ (V.int (0 + (j : Int)) = V.int pl) := of_decide_eq_false (Bool.eq_false_iff.mpr c)
          have hne2 : ¬ ((0 : Int) + (j : Int) = pl) := fun e => hne (by rw [e])
          exact add_old (zp (by omega))
      · rintro σ H5 ⟨o, z, v12, rfl, rfl, o0, zl, za, zp⟩
        have hns : (ns.map V.str).length < sizeLine := small1000 (by rw [List.length_map]; omega)
        refine ⟨_, rfl, .inl ⟨rfl, _, SqL.of hpJ⟩, _, rfl, p, _, _, rfl, rfl, hpJ, hns, ?_⟩
        have hnm : isNm z = true := by
          unfold isNm
          rw [za, zl]
          simp
          omega
        refine ⟨_, _, _, _, _, ns ++ [z], rfl, kJ.own hp0, sJ.other nps npc, ?_, ?_, ?_⟩
        · rw [upd_same, List.map_append]; rfl
        · rw [List.length_append, hlen]; rfl
        · exact hN.snoc hnm (by rw [hlen]; exact zp (by omega))
  · rintro σ H' ⟨v8, v9, v10, v11, v12, ns, rfl, kH, sH, hpH, hlen, hN⟩
    refine ⟨_, rfl, q p ns H' kH sH hp0 nps npc hpH (by omega) ⟨hN.good, hN.nodup (by omega)⟩⟩
end
end K09
namespace K09
open PySem PySem.Spec PyProof.Rows L2 Td
/-- all rows, counted at all depths; n: how deep it may still go -/
def spMany (K : PySem.W.Frag) (n : Nat) : Sp := fun vs H Q _ => ∃ (v : V) (rs : List Td.Row) (S : Sc) (dep : Nat),
  vs = [v] ∧ Dp K H v (.tuple (rowsD rs)) ∧ okRs S dep rs ∧ dep ≤ 4 ∧ 5 ≤ dep + n ∧ Q (.int (cnts rs : Nat)) H
section
variable {P : Program} {w : World} {K : PySem.W.Frag} {mg : Str → Option Value} {base : Heap}
theorem ok_many1 (T : Tops w K mg) {n : Nat} (G__law_many : FnOk P w K mg base CX0 n T.a__law_many T.d__law_many ["_law_rows_here"] (spMany K n)) :
    FnOk P w K mg base CX0 (n + 1) T.a__law_many T.d__law_many ["_law_rows_here"] (spMany K (n + 1)) := by
  refine T.F__law_many.ok sc_law_many (fun vs H Q E h => ?_) (fun cdv A outer s H vs Q E hr h => ?_)
  · obtain ⟨v, rs, S, dep, rfl, _⟩ := h
    rfl
  obtain ⟨v, rs, S, dep, rfl, hD, ok, hdep, hn, q⟩ := h
  obtain ⟨a, xs, rfl, hS, hl, hx⟩ := rows_at hD
  refine ⟨_, (pss_cons (ps_set (i := 1) sc_law_many.nd rfl (Or.inl rfl) (pe_callB call_len rfl T.z_len PySem.boot_len (pa_cons (pv 0) pa_nil)))
    (pss_cons (ps_for PassesOwn.never rfl (pi_tup (pv 0)) (pg_name (i := 2) sc_law_many.nd rfl (Or.inl rfl)) (pss_one (ps_if (pt_cmpR op_eq (pe_ix ix_tup (pv 2) pe_int (fun _ _ => rfl)) pe_str (nomark _)) (pss_one (ps_aug (i := 1) sc_law_many.nd rfl (Or.inl rfl) (pe_op op_add (pe_call G__law_many (hr.mono (by omega)) rfl T.m__law_many T.F__law_many.kp T.b__law_many .nil pass0 (pa_cons (pe_ix ix_tup (pv 2) pe_int (fun _ _ => rfl)) pa_nil)) (pe_call G__law_many (hr.mono (by omega)) rfl T.m__law_many T.F__law_many.kp T.b__law_many .nil pass0 (pa_cons (pe_ix ix_tup (pv 2) pe_int (fun _ _ => rfl)) pa_nil))) ip_add)) pss_nil)))
    (pss_one (ps_ret (pv 1))))), ?_⟩
  refine ⟨_, rfl, _, _, rfl, .inr ⟨_, hS, rfl⟩, ?_⟩
  refine ⟨_, rfl, a, rfl, ⟨_, hS⟩, for_tup (K := K) (a := a) (xs := xs) (fun i σ H' => ∃ (v2 : Option V), H' = H ∧
    σ = [some (.ref a), some (.int ((cnts (rs.take i) + (rs.length - i) : Nat) : Int)), v2])
    ⟨none, rfl, ?_⟩ (fun i σ H' _ ⟨_, e, _⟩ => by rw [e]; exact hS) ?_ ?_⟩
  · show [some (V.ref a), some (V.int (xs.length : Nat)), none] = _
    rw [hl]
    simp [cnts]
  · rintro i x σ H' hi ⟨v2, rfl, rfl⟩
    obtain ⟨r, hr2, hDr⟩ := hx i x hi
    have hil : i < rs.length := (List.getElem?_eq_some_iff.mp hr2).1
    have okr := okRs_get ok hr2
    have step := cnts_take hr2
    have hp := cnt_pos r
    cases hite : isIte r with
    | false =>
      obtain ⟨ar, ys, rfl, hSr, h0⟩ := row_at hDr
      refine ⟨_, rfl, ar, _, 0, _, rfl, rfl, hSr, atI_nat (j := 0) h0, rfl, _, rfl, ?_⟩
      refine if_false_of ((tag_if r).trans hite) ⟨some (.ref ar), rfl, ?_⟩
      have hc := cnt_flat hite
      have e : cnts (rs.take i) + (rs.length - i) = cnts (rs.take (i + 1)) + (rs.length - (i + 1)) := by omega
      rw [← e]; rfl
    | true =>
      cases r with
      | ite sl wd y n' =>
        obtain ⟨ar, vy, vn, rfl, hSr, hy, hn'⟩ := ite_at hDr
        unfold okR at okr
        obtain ⟨hd3, _, _, oy, on⟩ := okr
        refine ⟨_, rfl, ar, _, 0, _, rfl, rfl, hSr, rfl, rfl, _, rfl, ?_⟩
        refine if_true_of (by decide +kernel) ?_
        refine ⟨_, rfl, _, rfl, ar, _, 3, _, rfl, rfl, hSr, rfl, vy, y, S, dep + 1, rfl, hy, oy, by omega, by omega, ?_⟩
        refine ⟨_, rfl, ar, _, 4, _, rfl, rfl, hSr, rfl, vn, n', S, dep + 1, rfl, hn', on, by omega, by omega, ?_⟩
        refine ⟨_, _, rfl, rfl, _, _, rfl, rfl, some (.ref ar), rfl, ?_⟩
        have ec : Td.cnt (.ite sl wd y n') = 1 + cnts y + cnts n' := by unfold Td.cnt; rfl
        have e : ((cnts (rs.take i) + (rs.length - i) : Nat) : Int) + ((cnts y : Nat) + (cnts n' : Nat)) = ((cnts (rs.take (i + 1)) + (rs.length - (i + 1)) : Nat) : Int) := by omega
        rw [← e]; rfl
      | _ => cases hite
  · rintro σ H' ⟨v2, rfl, rfl⟩
    refine ⟨_, rfl, ?_⟩
    rw [hl, List.take_length, Nat.sub_self, Nat.add_zero]
    exact q
theorem ok_many (T : Tops w K mg) : ∀ n, FnOk P w K mg base CX0 n T.a__law_many T.d__law_many ["_law_rows_here"] (spMany K n)
  | 0 => by
    have no : ∀ vs H Q E, ¬ spMany K 0 vs H Q E := fun vs H Q E h => by
      obtain ⟨_, _, _, dep, _, _, _, h1, h2, _⟩ := h
      omega
    exact ⟨fun vs H Q E h => absurd h (no vs H Q E), fun A outer s H args us vs Q E _ _ _ _ h => absurd h (no vs H Q E)⟩
  | n + 1 => ok_many1 T (ok_many T n)
end
end K09
namespace K09
open PySem PySem.Spec PyProof.Rows L2 Td
/-- the dict that says what a body may be, at d -/
structure ShapeAt (K : PySem.W.Frag) (st : Addr) (H : Hp) (d : Addr) (S : Sc) (slots : List Str) : Prop where
  ex : ∃ (kvs : List (Key × V)) (aw asl ac aso : Addr) (pk wr : Bool),
    H d = some (.dK kvs) ∧ kvs.length ≤ 100 ∧
    valV kvs (.inr "words") = some (.ref aw) ∧ SqT K H aw (S.words.map V.str) ∧ aw ≠ st ∧
    valV kvs (.inr "slots") = some (.ref asl) ∧ SqL K H asl (slots.map V.str) ∧ asl ≠ st ∧
    valV kvs (.inr "cells") = some (.ref ac) ∧ SqL K H ac (S.readable.map V.str) ∧ ac ≠ st ∧
    valV kvs (.inr "sources") = some (.ref aso) ∧ SqT K H aso (S.sources.map V.str) ∧ aso ≠ st ∧
    valV kvs (.inr "kind") = some (.str (if S.eff then "effects" else "derived")) ∧
    valV kvs (.inr "peeks") = some (.bl pk) ∧ valV kvs (.inr "writes") = some (.bl wr) ∧ (pk = true → S.eff = true) ∧ (wr = true → S.eff = true)
  ne : d ≠ st
  w0 : S.words ≠ []
  s0 : slots ≠ []
  c0 : S.readable ≠ []
  o0 : S.sources ≠ []
  small : S.words.length ≤ 100 ∧ slots.length ≤ 100 ∧ S.readable.length ≤ 100 ∧ S.sources.length ≤ 100
  good : ∀ z ∈ slots, isNm z = true
section
variable {K : PySem.W.Frag} {H H' : Hp} {st sc d : Addr} {S : Sc} {slots : List Str}
theorem ShapeAt.keep (h : ShapeAt K st H d S slots) (k : Keep st H H') : ShapeAt K st H' d S slots := by
  obtain ⟨kvs, aw, asl, ac, aso, pk, wr, e0, e00, e1, e2, e3, e4, e5, e6, e7, e8, e9, e10, e11, e12, r⟩ := h.ex
  exact ⟨⟨kvs, aw, asl, ac, aso, pk, wr, k _ _ h.ne e0, e00, e1, SqT.keep k e3 e2, e3, e4, SqL.keep k e6 e5, e6, e7, SqL.keep k e9 e8, e9, e10, SqT.keep k e12 e11, e12, r⟩, h.ne, h.w0, h.s0, h.c0, h.o0, h.small, h.good⟩
theorem dget_of {a : Addr} {kvs : List (Key × V)} {z : Str} {v : V} (e : H a = some (.dK kvs)) (h : valV kvs (.inr z) = some v) : DGet H a (.str z) (some v) := by
  rw [← h]; exact DGet.k (k := Sum.inr z) e
/-- an item, drawn -/
theorem pick {xs : List Str} {r : Int} (h0 : 0 ≤ r) (h1 : r < (xs.map V.str).length) : ∃ z ∈ xs, atI (xs.map V.str) r = some (.str z) := by
  rw [List.length_map] at h1
  have hl : r.toNat < xs.length := by omega
  refine ⟨xs[r.toNat], List.getElem_mem hl, ?_⟩
  have : atI (xs.map V.str) ((r.toNat : Nat) : Int) = some (V.str xs[r.toNat]) := atI_nat (by rw [List.getElem?_map, List.getElem?_eq_getElem hl]; rfl)
  rwa [show ((r.toNat : Nat) : Int) = r by omega] at this
def rLen (K : PySem.W.Frag) : List V → Hp → VK → Prop := fun xs H Q => ∃ x n, xs = [x] ∧ LenV K x H n ∧ Q (.int n) H
def tPick (K : PySem.W.Frag) (r : R2) (key : Str) : TE := tOp r (tDGet (tVar 1) (tC (.str key)))
  (tCall spDraw [] E0 (tCons (tVar 0) (tCons (tCB (rLen K) (tCons (tDGet (tVar 1) (tC (.str key))) tNil)) tNil)))
theorem pick_l {σ : L2.St} {Q : VK} {key : Str} {kvs : List (Key × V)} {a : Addr} {xs : List Str} (h0 : σ[0]? = some (some (.ref st))) (h1 : σ[1]? = some (some (.ref d)))
    (hd : H d = some (.dK kvs)) (nd : d ≠ st) (hv : valV kvs (.inr key) = some (.ref a)) (hS : SqL K H a (xs.map V.str)) (na : a ≠ st) (hx : xs ≠ []) (hl : xs.length ≤ 100) (ok : StOk H st sc)
    (q : ∀ z ∈ xs, ∀ H', Keep st H H' → StOk H' st sc → Q (.str z) H') : tPick K (rIxL K) key σ H Q := by
  have hp : 0 < xs.length := List.length_pos_iff.mpr hx
  refine ⟨_, h1, d, _, rfl, dget_of hd hv, _, h0, _, h1, d, _, rfl, dget_of hd hv, _, (xs.map V.str).length, rfl, .inl ⟨_, hS, rfl⟩, st, sc, _, rfl, ?_, ?_, ok, fun r H' r0 r1 k o _ => ?_⟩
  · rw [List.length_map]; omega
  · rw [List.length_map]; omega
  · obtain ⟨z, hz, e⟩ := pick r0 r1
    exact ⟨a, _, r, _, rfl, rfl, SqL.keep k na hS, e, q z hz H' k o⟩
theorem pick_t {σ : L2.St} {Q : VK} {key : Str} {kvs : List (Key × V)} {a : Addr} {xs : List Str} (h0 : σ[0]? = some (some (.ref st))) (h1 : σ[1]? = some (some (.ref d)))
    (hd : H d = some (.dK kvs)) (nd : d ≠ st) (hv : valV kvs (.inr key) = some (.ref a)) (hS : SqT K H a (xs.map V.str)) (na : a ≠ st) (hx : xs ≠ []) (hl : xs.length ≤ 100) (ok : StOk H st sc)
    (q : ∀ z ∈ xs, ∀ H', Keep st H H' → StOk H' st sc → Q (.str z) H') : tPick K (rIxT K) key σ H Q := by
  have hp : 0 < xs.length := List.length_pos_iff.mpr hx
  refine ⟨_, h1, d, _, rfl, dget_of hd hv, _, h0, _, h1, d, _, rfl, dget_of hd hv, _, (xs.map V.str).length, rfl, .inr ⟨_, hS, rfl⟩, st, sc, _, rfl, ?_, ?_, ok, fun r H' r0 r1 k o _ => ?_⟩
  · rw [List.length_map]; omega
  · rw [List.length_map]; omega
  · obtain ⟨z, hz, e⟩ := pick r0 r1
    exact ⟨a, _, r, _, rfl, rfl, SqT.keep k na hS, e, q z hz H' k o⟩
end
def spRow (K : PySem.W.Frag) : Sp := fun vs H Q _ => ∃ (st sc d : Addr) (S : Sc) (slots : List Str), vs = [.ref st, .ref d] ∧ StOk H st sc ∧ ShapeAt K st H d S slots ∧
  ∀ (v : V) (r : Td.Row) (H' : Hp), Keep st H H' → StOk H' st sc → (∀ dep, okR S dep r) → isIte r = false → Tn K H' v (rowD r) → Q v H'
section
variable {P : Program} {w : World} {K : PySem.W.Frag} {mg : Str → Option Value} {base : Heap}
theorem ok_row (T : Tops w K mg) (G__law_draw : FnOk P w K mg base CX0 1 T.a__law_draw T.d__law_draw ["_law_state_here", "_law_many_here"] spDraw) :
    FnOk P w K mg base CX0 2 T.a__law_row T.d__law_row ["_law_state_here", "_law_shape"] (spRow K) := by
  refine T.F__law_row.ok sc_law_row (fun vs H Q E h => ?_) (fun cdv A outer s H vs Q E hr h => ?_)
  · obtain ⟨st, sc, d, S, slots, rfl, _⟩ := h
    rfl
  obtain ⟨st, sc, d, S, slots, rfl, ok, sh, q⟩ := h
  refine ⟨_, (pss_cons (ps_set (i := 2) sc_law_row.nd rfl (Or.inl rfl) (pe_call G__law_draw (hr.mono (by omega)) rfl T.m__law_draw T.F__law_draw.kp T.b__law_draw .nil pass0 (pa_cons (pv 0) (pa_cons pe_int pa_nil))))
    (pss_cons (ps_set (i := 3) sc_law_row.nd rfl (Or.inl rfl) (pe_ix ix_list (pe_dget (hu_of hr) (pv 1) pe_str (fun _ _ => rfl)) (pe_call G__law_draw (hr.mono (by omega)) rfl T.m__law_draw T.F__law_draw.kp T.b__law_draw .nil pass0 (pa_cons (pv 0) (pa_cons (pe_callB call_len rfl T.z_len PySem.boot_len (pa_cons (pe_dget (hu_of hr) (pv 1) pe_str (fun _ _ => rfl)) pa_nil)) pa_nil))) (fun _ _ => rfl)))
    (pss_cons (ps_if (pt_cmpR op_eq (pv 2) pe_int (nomark _)) (pss_one (ps_ret (pe_tup (pa_cons pe_str (pa_cons (pv 3) (pa_cons (pe_ix ix_tup (pe_dget (hu_of hr) (pv 1) pe_str (fun _ _ => rfl)) (pe_call G__law_draw (hr.mono (by omega)) rfl T.m__law_draw T.F__law_draw.kp T.b__law_draw .nil pass0 (pa_cons (pv 0) (pa_cons (pe_callB call_len rfl T.z_len PySem.boot_len (pa_cons (pe_dget (hu_of hr) (pv 1) pe_str (fun _ _ => rfl)) pa_nil)) pa_nil))) (fun _ _ => rfl)) pa_nil)))))) pss_nil)
    (C8.pss_cut (ps_if (PW.pt (pw_and (pt_cmpR op_eq (pv 2) pe_int (nomark _)) (pw_and1 (pt_cmpR op_eq (pe_dget (hu_of hr) (pv 1) pe_str (fun _ _ => rfl)) pe_str (nomark _))))) (pss_one (ps_ret (pe_tup (pa_cons pe_str (pa_cons (pv 3) pa_nil))))) pss_nil)
    (pss_cons (ps_if (pt_cmpR op_eq (pv 2) pe_int (nomark _)) (pss_one (ps_ret (pe_tup (pa_cons pe_str (pa_cons (pv 3) pa_nil))))) pss_nil)
    (C8.pss_cut (ps_if (PW.pt (pw_and (pt_cmpR op_eq (pv 2) pe_int (nomark _)) (pw_and1 (pt_val (pe_dget (hu_of hr) (pv 1) pe_str (fun _ _ => rfl)))))) (pss_one (ps_ret (pe_tup (pa_cons pe_str (pa_cons (pe_ix ix_tup (pe_dget (hu_of hr) (pv 1) pe_str (fun _ _ => rfl)) (pe_call G__law_draw (hr.mono (by omega)) rfl T.m__law_draw T.F__law_draw.kp T.b__law_draw .nil pass0 (pa_cons (pv 0) (pa_cons (pe_callB call_len rfl T.z_len PySem.boot_len (pa_cons (pe_dget (hu_of hr) (pv 1) pe_str (fun _ _ => rfl)) pa_nil)) pa_nil))) (fun _ _ => rfl)) (pa_cons (pv 3) pa_nil)))))) pss_nil)
    (pss_cons (ps_set (i := 4) sc_law_row.nd rfl (Or.inl rfl) (pe_ix ix_list (pe_dget (hu_of hr) (pv 1) pe_str (fun _ _ => rfl)) (pe_call G__law_draw (hr.mono (by omega)) rfl T.m__law_draw T.F__law_draw.kp T.b__law_draw .nil pass0 (pa_cons (pv 0) (pa_cons (pe_callB call_len rfl T.z_len PySem.boot_len (pa_cons (pe_dget (hu_of hr) (pv 1) pe_str (fun _ _ => rfl)) pa_nil)) pa_nil))) (fun _ _ => rfl)))
    (C8.pss_cut (ps_if (PW.pt (pw_and (pt_cmpR op_eq (pv 2) pe_int (nomark _)) (pw_and1 (pt_val (pe_dget (hu_of hr) (pv 1) pe_str (fun _ _ => rfl)))))) (pss_one (ps_ret (pe_tup (pa_cons pe_str (pa_cons (pv 4) (pa_cons (pv 3) pa_nil)))))) pss_nil)
    (pss_one (ps_ret (pe_tup (pa_cons pe_str (pa_cons (pv 4) (pa_cons (pv 3) pa_nil)))))))))))))), ?_⟩
  -- kind, slot
  refine ⟨_, rfl, st, sc, 6, rfl, by decide, by decide, ok, fun kd H1 kd0 kd1 k1 o1 _ => ?_⟩
  have sh1 := sh.keep k1
  obtain ⟨kvs, aw, asl, ac, aso, pk, wr, e0, e00, e1, e2, e3, e4, e5, e6, e7, e8, e9, e10, e11, e12, e13, e14, e15, e16, e17⟩ := sh1.ex
  refine pick_l (key := "slots") rfl rfl e0 sh1.ne e4 e5 e6 sh1.s0 sh1.small.2.1 o1 fun sl hsl H2 k2 o2 => ?_
  have hsl' := sh.good sl hsl
  have k12 := k1.trans k2
  have sh2 := sh1.keep k2
  obtain ⟨kvs, aw, asl, ac, aso, pk, wr, e0, e00, e1, e2, e3, e4, e5, e6, e7, e8, e9, e10, e11, e12, e13, e14, e15, e16, e17⟩ := sh2.ex
  have give : ∀ (zs : List Str) (r : Td.Row), zs.length ≤ 5 → rowD r = .tuple (zs.map PyData.str) → (∀ dep, okR S dep r) → isIte r = false →
      ∀ H3, Keep st H H3 → StOk H3 st sc → (zs.map V.str).length ≤ sizeLine ∧ ∀ p, H3 p = none → Q (.ref p) (upd H3 p (.tup (zs.map V.str))) := fun zs r hz hr ho hi H3 k3 o3 =>
    ⟨Nat.le_of_lt (small1000 (by rw [List.length_map]; omega)), fun p hp => q _ r _ (k3.trans (Keep.new hp)) (o3.new hp) ho hi (by rw [hr]; exact Tn.new (TnAll.strs zs) hp)⟩
  -- kind == 0: put
  refine ⟨_, rfl, rfl, _, rfl, ?_⟩
  refine ite2 (fun _ => ?_) (fun _ => ?_)
  · refine ⟨_, rfl, pick_t (key := "words") rfl rfl e0 sh2.ne e1 e2 e3 sh2.w0 sh2.small.1 o2 fun wd hwd H3 k3 o3 => ?_⟩
    exact give ["put", sl, wd] (.put sl wd) (Nat.le_of_ble_eq_true rfl) rfl (fun dep => by unfold okR; exact ⟨hsl', hwd⟩) rfl H3 (k12.trans k3) o3
  -- kind == 1 and shape["kind"] == "derived": give
  refine ⟨fun σ' H' => H' = H2 ∧ σ' = [some (.ref st), some (.ref d), some (.int kd), some (.str sl), none] ∧ (kd = 1 → S.eff = true), ?_, ?_⟩
  · refine ⟨_, rfl, rfl, _, rfl, ?_⟩
    refine ite2 (fun c => ?_) (fun c => ?_)
    · refine ⟨_, rfl, d, _, rfl, dget_of e0 e13, rfl, _, rfl, ?_⟩
      cases hE : S.eff with
      | false =>
        refine if_true_of (by rw [if_neg Bool.false_ne_true]; decide +kernel) ?_
        exact ⟨_, rfl, give ["give", sl] (.give sl) (Nat.le_of_ble_eq_true rfl) rfl (fun dep => by unfold okR; exact ⟨hE, hsl'⟩) rfl H2 k12 o2⟩
      | true =>
        refine if_false_of (by rw [if_pos rfl]; decide +kernel) ?_
        exact ⟨rfl, rfl, fun _ => rfl⟩
    · refine iteF ⟨rfl, rfl, fun e => absurd ?_ c⟩
      rw [e]; decide +kernel
  rintro σ' H' ⟨rfl, rfl, hk1⟩
  -- kind == 1: say
  refine ⟨_, rfl, rfl, _, rfl, ?_⟩
  refine ite2 (fun c => ?_) (fun _ => ?_)
  · have hk : kd = 1 := by
      have := of_decide_eq_true c
      injection this
    exact ⟨_, rfl, give ["say", sl] (.say sl) (Nat.le_of_ble_eq_true rfl) rfl (fun dep => by unfold okR; exact ⟨hk1 hk, hsl'⟩) rfl H' k12 o2⟩
  -- kind == 2 and shape["writes"]
  refine ⟨fun σ' H'' => H'' = H' ∧ σ' = [some (.ref st), some (.ref d), some (.int kd), some (.str sl), none], ?_, ?_⟩
  · refine ⟨_, rfl, rfl, _, rfl, ?_⟩
    refine ite2 (fun _ => ?_) (fun _ => iteF ⟨rfl, rfl⟩)
    refine ⟨_, rfl, d, _, rfl, dget_of e0 e15, _, rfl, ?_⟩
    refine ite2 (fun hw => ?_) (fun _ => ⟨rfl, rfl⟩)
    refine pick_t (key := "sources") rfl rfl e0 sh2.ne e10 e11 e12 sh2.o0 sh2.small.2.2.2 o2 fun so hso H3 k3 o3 => ⟨_, rfl, ?_⟩
    exact give ["write", so, sl] (.wr so sl) (Nat.le_of_ble_eq_true rfl) rfl (fun dep => by unfold okR; exact ⟨e17 hw, hso, hsl'⟩) rfl H3 (k12.trans k3) o3
  rintro σ' H'' ⟨rfl, rfl⟩
  -- cell
  refine pick_l (key := "cells") rfl rfl e0 sh2.ne e7 e8 e9 sh2.c0 sh2.small.2.2.1 o2 fun ce hce H3 k3 o3 => ?_
  have sh3 := sh2.keep k3
  obtain ⟨kvs3, aw3, asl3, ac3, aso3, pk3, wr3, f0, f00, f1, f2, f3, f4, f5, f6, f7, f8, f9, f10, f11, f12, f13, f14, f15, f16, f17⟩ := sh3.ex
  refine ⟨fun σ' H4 => H4 = H3 ∧ σ' = [some (.ref st), some (.ref d), some (.int kd), some (.str sl), some (.str ce)], ?_, ?_⟩
  · refine ⟨_, rfl, rfl, _, rfl, ?_⟩
    refine ite2 (fun _ => ?_) (fun _ => iteF ⟨rfl, rfl⟩)
    refine ⟨_, rfl, d, _, rfl, dget_of f0 f14, _, rfl, ?_⟩
    refine ite2 (fun hp => ?_) (fun _ => ⟨rfl, rfl⟩)
    exact ⟨_, rfl, _, rfl, give ["peek", ce, sl] (.rd true ce sl) (Nat.le_of_ble_eq_true rfl) rfl (fun dep => by unfold okR; exact ⟨fun _ => f16 hp, hce, hsl'⟩) rfl H3 (k12.trans k3) o3⟩
  rintro σ' H4 ⟨rfl, rfl⟩
  exact ⟨_, rfl, _, rfl, give ["read", ce, sl] (.rd false ce sl) (Nat.le_of_ble_eq_true rfl) rfl (fun dep => by unfold okR; exact ⟨(fun h => nomatch h), hce, hsl'⟩) rfl H4 (k12.trans k3) o3⟩
end
end K09
namespace K09
open PySem PySem.Spec PyProof.Rows L2 Td
def spRows (K : PySem.W.Frag) (n : Nat) : Sp := fun vs H Q _ => ∃ (st sc d : Addr) (S : Sc) (slots : List Str) (dep : Nat) (room : Int),
  vs = [.ref st, .ref d, .int (dep : Nat), .int room] ∧ StOk H st sc ∧ ShapeAt K st H d S slots ∧ dep ≤ 4 ∧ 6 ≤ dep + n ∧ 0 ≤ room ∧ room ≤ 100 ∧
  ∀ (v : V) (rs : List Td.Row) (H' : Hp), Keep st H H' → StOk H' st sc → okRs S dep rs → (cnts rs : Int) ≤ room → Tn K H' v (.tuple (rowsD rs)) → Q v H'
theorem cnts_one (r : Td.Row) : cnts [r] = Td.cnt r := by simp [cnts]
theorem rowsD_one (r : Td.Row) : rowsD [r] = [rowD r] := by simp [rowsD]
theorem cnts_len : ∀ rs : List Td.Row, rs.length ≤ cnts rs
  | [] => Nat.zero_le _
  | r :: rs => by
    have := cnts_len rs
    have := cnt_pos r
    simp only [cnts, List.length_cons]
    omega
section
variable {P : Program} {w : World} {K : PySem.W.Frag} {mg : Str → Option Value} {base : Heap}
theorem ok_rows1 (T : Tops w K mg) {n : Nat} (hn5 : 5 ≤ n)
    (G__law_draw : FnOk P w K mg base CX0 1 T.a__law_draw T.d__law_draw ["_law_state_here", "_law_many_here"] spDraw)
    (G__law_row : FnOk P w K mg base CX0 2 T.a__law_row T.d__law_row ["_law_state_here", "_law_shape"] (spRow K))
    (G__law_many : FnOk P w K mg base CX0 5 T.a__law_many T.d__law_many ["_law_rows_here"] (spMany K 5))
    (G__law_rows : FnOk P w K mg base CX0 n T.a__law_rows T.d__law_rows ["_law_state_here", "_law_shape", "_law_depth", "_law_room"] (spRows K (n - 5))) :
    FnOk P w K mg base CX0 (n + 1) T.a__law_rows T.d__law_rows ["_law_state_here", "_law_shape", "_law_depth", "_law_room"] (spRows K (n - 5 + 1)) := by
  refine T.F__law_rows.ok sc_law_rows (fun vs H Q E h => ?_) (fun cdv A outer s H vs Q E hr h => ?_)
  · obtain ⟨st, sc, d, S, slots, dep, room, rfl, _⟩ := h
    rfl
  obtain ⟨st, sc, d, S, slots, dep, room, rfl, ok, sh, hdep, hn, hr0, hr1, q⟩ := h
  refine ⟨_, (pss_cons (ps_set (i := 4) sc_law_rows.nd rfl (Or.inl rfl) (pe_lst pa_nil))
    (pss_cons (ps_set (i := 5) sc_law_rows.nd rfl (Or.inl rfl) (pv 3))
    (pss_cons (ps_for PassesOwn.never rfl (pi_range1 rfl T.z_range (pa_cons (pe_op op_add pe_int (pe_call G__law_draw (hr.mono (by omega)) rfl T.m__law_draw T.F__law_draw.kp T.b__law_draw .nil pass0 (pa_cons (pv 0) (pa_cons pe_int pa_nil)))) pa_nil)) (pg_name (i := 6) sc_law_rows.nd rfl (Or.inl rfl)) (pss_one (ps_ifC (PW.pt (pw_and (pt_cmpR op_ge (pv 5) pe_int (nomark _)) (pw_and (pt_cmpR op_lt (pv 2) pe_int (nomark _)) (pw_and1 (pt_cmpR op_eq (pe_call G__law_draw (hr.mono (by omega)) rfl T.m__law_draw T.F__law_draw.kp T.b__law_draw .nil pass0 (pa_cons (pv 0) (pa_cons pe_int pa_nil))) pe_int (nomark _)))))) (pss_cons (ps_set (i := 7) sc_law_rows.nd rfl (Or.inl rfl) (pe_ix ix_list (pe_dget (hu_of hr) (pv 1) pe_str (fun _ _ => rfl)) (pe_call G__law_draw (hr.mono (by omega)) rfl T.m__law_draw T.F__law_draw.kp T.b__law_draw .nil pass0 (pa_cons (pv 0) (pa_cons (pe_callB call_len rfl T.z_len PySem.boot_len (pa_cons (pe_dget (hu_of hr) (pv 1) pe_str (fun _ _ => rfl)) pa_nil)) pa_nil))) (fun _ _ => rfl)))
    (pss_cons (ps_set (i := 8) sc_law_rows.nd rfl (Or.inl rfl) (pe_ix ix_list (pe_dget (hu_of hr) (pv 1) pe_str (fun _ _ => rfl)) (pe_call G__law_draw (hr.mono (by omega)) rfl T.m__law_draw T.F__law_draw.kp T.b__law_draw .nil pass0 (pa_cons (pv 0) (pa_cons (pe_callB call_len rfl T.z_len PySem.boot_len (pa_cons (pe_dget (hu_of hr) (pv 1) pe_str (fun _ _ => rfl)) pa_nil)) pa_nil))) (fun _ _ => rfl)))
    (pss_cons (ps_set (i := 9) sc_law_rows.nd rfl (Or.inl rfl) (pe_ix ix_tup (pe_dget (hu_of hr) (pv 1) pe_str (fun _ _ => rfl)) (pe_call G__law_draw (hr.mono (by omega)) rfl T.m__law_draw T.F__law_draw.kp T.b__law_draw .nil pass0 (pa_cons (pv 0) (pa_cons (pe_callB call_len rfl T.z_len PySem.boot_len (pa_cons (pe_dget (hu_of hr) (pv 1) pe_str (fun _ _ => rfl)) pa_nil)) pa_nil))) (fun _ _ => rfl)))
    (pss_cons (ps_expr (pe_bm PySem.F.plainAttrs_list PySem.F.slot_list_append PySem.F.type_list_append mt_append (pv 4) (pa_cons (pe_tup (pa_cons pe_str (pa_cons (pv 8) (pa_cons (pv 7) pa_nil)))) pa_nil)))
    (pss_cons (ps_set (i := 10) sc_law_rows.nd rfl (Or.inl rfl) (pe_call G__law_rows (hr.mono (by omega)) rfl T.m__law_rows T.F__law_rows.kp T.b__law_rows .nil pass0 (pa_cons (pv 0) (pa_cons (pv 1) (pa_cons (pe_op op_add (pv 2) pe_int) (pa_cons (pe_op op_fdivW (pe_op op_sub (pv 5) pe_int) pe_int) pa_nil))))))
    (pss_cons (ps_set (i := 11) sc_law_rows.nd rfl (Or.inl rfl) (pe_call G__law_rows (hr.mono (by omega)) rfl T.m__law_rows T.F__law_rows.kp T.b__law_rows .nil pass0 (pa_cons (pv 0) (pa_cons (pv 1) (pa_cons (pe_op op_add (pv 2) pe_int) (pa_cons (pe_op op_fdivW (pe_op op_sub (pv 5) pe_int) pe_int) pa_nil))))))
    (pss_cons (ps_expr (pe_bm PySem.F.plainAttrs_list PySem.F.slot_list_append PySem.F.type_list_append mt_append (pv 4) (pa_cons (pe_tup (pa_cons pe_str (pa_cons (pv 7) (pa_cons (pv 9) (pa_cons (pv 10) (pa_cons (pv 11) pa_nil)))))) pa_nil)))
    (pss_one (ps_set (i := 5) sc_law_rows.nd rfl (Or.inl rfl) (pe_op op_sub (pe_op op_sub (pe_op op_sub (pv 5) pe_int) (pe_call G__law_many (hr.mono (by omega)) rfl T.m__law_many T.F__law_many.kp T.b__law_many .nil pass0 (pa_cons (pv 10) pa_nil))) (pe_call G__law_many (hr.mono (by omega)) rfl T.m__law_many T.F__law_many.kp T.b__law_many .nil pass0 (pa_cons (pv 11) pa_nil)))))))))))) (pss_one (ps_if (pt_cmpR op_ge (pv 5) pe_int (nomark _)) (pss_cons (ps_expr (pe_bm PySem.F.plainAttrs_list PySem.F.slot_list_append PySem.F.type_list_append mt_append (pv 4) (pa_cons (pe_call G__law_row (hr.mono (by omega)) rfl T.m__law_row T.F__law_row.kp T.b__law_row .nil pass0 (pa_cons (pv 0) (pa_cons (pv 1) pa_nil))) pa_nil)))
    (pss_one (ps_set (i := 5) sc_law_rows.nd rfl (Or.inl rfl) (pe_op op_sub (pv 5) pe_int)))) pss_nil)))))
    (pss_one (ps_ret (pe_callTy call_tuple_of rfl T.z_tuple (by decide +kernel) (pa_cons (pv 4) pa_nil))))))), ?_⟩
  refine ⟨Nat.zero_le _, fun p hp => ?_⟩
  obtain ⟨nps, npc⟩ := ok.ne hp
  have ok0 : StOk (upd H p (.lst [])) st sc := ok.new hp
  have kp0 : Keep st H (upd H p (.lst [])) := Keep.new hp
  refine ⟨_, rfl, _, rfl, st, sc, 4, rfl, by decide, by decide, ok0, fun tn H1 t0 t1 k1 o1 _ => ⟨_, _, rfl, rfl, _, rfl, by omega, by omega, ?_⟩⟩
  have kH1 : Keep st H H1 := kp0.trans k1
  have hpH1 : H1 p = some (.lst []) := k1 _ _ nps upd_same
  refine for_range (lo := 0) (n := (1 + tn).toNat) (fun i σ H' => ∃ (left : Int) (v6 v7 v8 v9 v10 v11 : Option V) (xs : List V) (rs : List Td.Row),
    σ = [some (.ref st), some (.ref d), some (.int (dep : Nat)), some (.int room), some (.ref p), some (.int left), v6, v7, v8, v9, v10, v11] ∧
    Keep st H H' ∧ StOk H' st sc ∧ H' p = some (.lst xs) ∧ TnAll K H' xs (rowsD rs) ∧ okRs S dep rs ∧ (cnts rs : Int) + left ≤ room ∧ 0 ≤ left)
    ⟨room, none, none, none, none, none, none, [], [], rfl, kH1, o1, hpH1, by unfold rowsD; exact .nil, by unfold okRs; trivial, by simp [cnts], hr0⟩ ?_ ?_
  · rintro i σ H2 hi ⟨left, v6, v7, v8, v9, v10, v11, xs, rs, rfl, kH, oH, hpH, hT, hok, hcnt, hl0⟩
    have hlen : ∀ ys : List V, TnAll K H2 ys (rowsD rs) → ys.length ≤ 100 := fun ys h => by
      have e := h.length
      rw [rowsD_length] at e
      have := cnts_len rs
      omega
    -- append a row's tuple
    have app : ∀ {H3 : Hp} {v : V} {r : Td.Row} {ys : List V} {ts : List Td.Row}, Keep st H H3 → StOk H3 st sc → H3 p = some (.lst ys) → TnAll K H3 ys (rowsD ts) → okRs S dep ts → Tn K H3 v (rowD r) → okR S dep r →
        Keep st H (upd H3 p (.lst (ys ++ [v]))) ∧ StOk (upd H3 p (.lst (ys ++ [v]))) st sc ∧ TnAll K (upd H3 p (.lst (ys ++ [v]))) (ys ++ [v]) (rowsD (ts ++ [r])) ∧ okRs S dep (ts ++ [r]) ∧ cnts (ts ++ [r]) = cnts ts + Td.cnt r ∧ TK H3 (upd H3 p (.lst (ys ++ [v]))) := by
      intro H3 v r ys ts k3 o3 hp3 t3 okt tv okr
      have tk : TK H3 (upd H3 p (.lst (ys ++ [v]))) := TK.upd (by rw [hp3]; trivial)
      refine ⟨k3.own (ok.ne hp |>.1 |> fun _ => hp), o3.other nps npc, ?_, okRs_append okt (okRs_one okr), ?_, tk⟩
      · rw [rowsD_append, rowsD_one]
        exact TnAll.append (TnAll.keep tk t3) (TnAll.one (Tn.keep tk tv))
      · rw [cnts_append, cnts_one]
    have chg : ∀ {H3 : Hp}, StOk H3 st sc → Chg (H3 st) := fun o => by obtain ⟨L, hL⟩ := o.at; rw [hL]; trivial
    refine ⟨fun H3 => Keep st H2 H3 ∧ StOk H3 st sc, ?_, ?_⟩
    · refine ⟨_, rfl, _, _, rfl, rfl, _, rfl, ?_⟩
      refine ite2 (fun c1 => ?_) (fun _ => iteF ⟨Keep.refl _ _, oH⟩)
      have c1' : 2 ≤ left := of_decide_eq_true c1
      refine ⟨_, rfl, _, _, rfl, rfl, _, rfl, ?_⟩
      refine ite2 (fun c2 => ?_) (fun _ => iteF ⟨Keep.refl _ _, oH⟩)
      have c2' : ((dep : Nat) : Int) < 4 := of_decide_eq_true c2
      refine ⟨_, rfl, st, sc, 3, rfl, by decide, by decide, oH, fun x3 H3 x30 x31 k3 o3 _ => ⟨rfl, _, rfl, ?_⟩⟩
      refine ite2 (fun _ => ?_) (fun _ => ⟨k3, o3⟩)
      have sh3 := sh.keep (kH.trans k3)
      obtain ⟨kvs, aw, asl, ac, aso, pk, wr, e0, e00, e1, e2, e3, e4, e5, e6, e7, e8, e9, e10, e11, e12, e13, e14, e15, e16, e17⟩ := sh3.ex
      refine pick_l (key := "slots") rfl rfl e0 sh3.ne e4 e5 e6 sh3.s0 sh3.small.2.1 o3 fun sl hsl H4 k4 o4 => ?_
      have hsl' := sh3.good sl hsl
      have sh4 := sh3.keep k4
      obtain ⟨kvs, aw, asl, ac, aso, pk, wr, e0, e00, e1, e2, e3, e4, e5, e6, e7, e8, e9, e10, e11, e12, e13, e14, e15, e16, e17⟩ := sh4.ex
      refine pick_l (key := "cells") rfl rfl e0 sh4.ne e7 e8 e9 sh4.c0 sh4.small.2.2.1 o4 fun ce hce H5 k5 o5 => ?_
      have sh5 := sh4.keep k5
      obtain ⟨kvs, aw, asl, ac, aso, pk, wr, e0, e00, e1, e2, e3, e4, e5, e6, e7, e8, e9, e10, e11, e12, e13, e14, e15, e16, e17⟩ := sh5.ex
      refine pick_t (key := "words") rfl rfl e0 sh5.ne e1 e2 e3 sh5.w0 sh5.small.1 o5 fun wd hwd H6 k6 o6 => ?_
      have k26 : Keep st H2 H6 := k3.trans (k4.trans (k5.trans k6))
      have hp6 := k26 _ _ nps hpH
      have cst : Chg (H2 st) := by obtain ⟨L, hL⟩ := oH.at; rw [hL]; trivial
      have tk26 : TK H2 H6 := TK.of_keep k26 cst
      have t6 := TnAll.keep tk26 hT
      have hx100 := hlen xs hT
      -- append ("read", cell, slot)
      refine ⟨_, rfl, .inl ⟨rfl, _, SqL.of hp6⟩, _, rfl, _, rfl, by show 3 ≤ sizeLine; decide, fun t1 ht1 => ?_⟩
      have npt : p ≠ t1 := fun e => by rw [e, ht1] at hp6; cases hp6
      have hp7 : upd H6 t1 (.tup [.str "read", .str ce, .str sl]) p = some (.lst xs) := by rw [upd_ne npt]; exact hp6
      refine ⟨p, _, _, rfl, rfl, hp7, small1000 (by omega), ?_⟩
      have k7 : Keep st H (upd H6 t1 (.tup [.str "read", .str ce, .str sl])) := (kH.trans k26).trans (Keep.new ht1)
      obtain ⟨k8, o8, t8, ok8, c8, tk8⟩ := app (r := .rd false ce sl) k7 (o6.new ht1) hp7
        (TnAll.keep (TK.of_same (Same.new ht1 _)) t6) hok (by unfold rowD; exact Tn.new (TnAll.strs ["read", ce, sl]) ht1) (by unfold okR; exact ⟨(fun h => nomatch h), hce, hsl'⟩)
      have h8p : upd (upd H6 t1 (.tup [.str "read", .str ce, .str sl])) p (.lst (xs ++ [.ref t1])) p = some (.lst (xs ++ [.ref t1])) := upd_same
      show tSeq _ _ _ _ (upd (upd H6 t1 (.tup [.str "read", .str ce, .str sl])) p (.lst (xs ++ [.ref t1])))
      generalize upd (upd H6 t1 (.tup [.str "read", .str ce, .str sl])) p (.lst (xs ++ [.ref t1])) = H8 at k8 o8 t8 h8p
      -- yes, no
      refine ⟨_, rfl, _, rfl, _, rfl, _, _, rfl, rfl, _, rfl, _, _, rfl, rfl, _, _, rfl, rfl, wide_div (b := 64) (by decide) (by decide) (by decide) (by decide), ?_⟩
      refine ⟨st, sc, d, S, slots, dep + 1, _, rfl, o8, sh.keep k8, by omega, by omega, by omega, by omega, fun vy y H9 k9 o9 oky cy ty => ?_⟩
      refine ⟨_, rfl, _, rfl, _, rfl, _, _, rfl, rfl, _, rfl, _, _, rfl, rfl, _, _, rfl, rfl, wide_div (b := 64) (by decide) (by decide) (by decide) (by decide), ?_⟩
      refine ⟨st, sc, d, S, slots, dep + 1, _, rfl, o9, sh.keep (k8.trans k9), by omega, by omega, by omega, by omega, fun vn y' H10 k10 o10 okn cn tn' => ?_⟩
      have h10p := k10 _ _ nps (k9 _ _ nps h8p)
      have tk810 : TK H8 H10 := (TK.of_keep k9 (chg o8)).trans (TK.of_keep k10 (chg o9))
      have ty10 := Tn.keep (TK.of_keep k10 (chg o9)) ty
      -- append ("if", slot, word, yes, no)
      refine ⟨_, rfl, .inl ⟨rfl, _, SqL.of h10p⟩, _, rfl, _, rfl, _, rfl, _, rfl, by show 5 ≤ sizeLine; decide, fun t2 ht2 => ?_⟩
      have npt2 : p ≠ t2 := fun e => by rw [e, ht2] at h10p; cases h10p
      have tup2 : Tn K (upd H10 t2 (.tup [.str "if", .str sl, .str wd, vy, vn])) (.ref t2) (rowD (.ite sl wd y y')) := by
        unfold rowD
        exact Tn.new (.cons (.str _) (.cons (.str _) (.cons (.str _) (.cons ty10 (.cons tn' .nil))))) ht2
      have h11p : upd H10 t2 (.tup [.str "if", .str sl, .str wd, vy, vn]) p = some (.lst (xs ++ [.ref t1])) := by rw [upd_ne npt2]; exact h10p
      refine ⟨p, _, _, rfl, rfl, h11p, small1000 (by rw [List.length_append]; show xs.length + 1 ≤ 1000; omega), ?_⟩
      have k11 : Keep st H (upd H10 t2 (.tup [.str "if", .str sl, .str wd, vy, vn])) := ((k8.trans k9).trans k10).trans (Keep.new ht2)
      have tk11 : TK H10 (upd H10 t2 (.tup [.str "if", .str sl, .str wd, vy, vn])) := TK.of_same (Same.new ht2 _)
      obtain ⟨k12, o12, t12, ok12, c12, tk12⟩ := app k11 (o10.new ht2) h11p (TnAll.keep (tk810.trans tk11) t8) ok8 tup2 (by unfold okR; exact ⟨by omega, hsl', hwd, oky, okn⟩)
      have ec : Td.cnt (.ite sl wd y y') = 1 + cnts y + cnts y' := by unfold Td.cnt; rfl
      have er : Td.cnt (.rd false ce sl) = 1 := rfl
      have ty12 := Tn.keep (tk11.trans tk12) ty10
      have tn12 := Tn.keep (tk11.trans tk12) tn'
      refine ⟨_, rfl, _, _, rfl, rfl, _, rfl, vy, y, S, dep + 1, rfl, ty12.dp, oky, by omega, by omega, _, _, rfl, rfl, _, rfl, vn, y', S, dep + 1, rfl, tn12.dp, okn, by omega, by omega, _, _, rfl, rfl, ?_⟩
      exact ⟨_, _, _, _, _, _, _, _, _, rfl, k12, o12, upd_same, t12, ok12, by rw [c12, c8, ec, er]; omega, by omega⟩
    · rintro H3 ⟨k3, o3⟩
      refine ⟨_, rfl, _, _, rfl, rfl, _, rfl, ?_⟩
      refine ite2 (fun c1 => ?_) (fun _ => ?_)
      · have c1' : 1 ≤ left := of_decide_eq_true c1
        have hp3 := k3 _ _ nps hpH
        have cst : Chg (H2 st) := by obtain ⟨L, hL⟩ := oH.at; rw [hL]; trivial
        have t3 := TnAll.keep (TK.of_keep k3 cst) hT
        have hx100 := hlen xs hT
        refine ⟨_, rfl, .inl ⟨rfl, _, SqL.of hp3⟩, _, rfl, _, rfl, st, sc, d, S, slots, rfl, o3, sh.keep (kH.trans k3), fun v r H4 k4 o4 okr hir tv => ?_⟩
        have hp4 := k4 _ _ nps hp3
        refine ⟨p, _, _, rfl, rfl, hp4, small1000 (by omega), ?_⟩
        refine ⟨_, rfl, _, _, rfl, rfl, ?_⟩
        have cst3 : Chg (H3 st) := by obtain ⟨L, hL⟩ := o3.at; rw [hL]; trivial
        obtain ⟨k5, o5, t5, ok5, c5, tk5⟩ := app ((kH.trans k3).trans k4) o4 hp4 (TnAll.keep (TK.of_keep k4 cst3) t3) hok tv (okr dep)
        have e1 := cnt_flat hir
        exact ⟨_, _, v7, v8, v9, v10, v11, _, _, rfl, k5, o5, upd_same, t5, ok5, by rw [c5, e1]; omega, by omega⟩
      · exact ⟨left, _, v7, v8, v9, v10, v11, xs, rs, rfl, kH.trans k3, o3, k3 _ _ nps hpH, TnAll.keep (TK.of_keep k3 (chg oH)) hT, hok, hcnt, hl0⟩
  · rintro σ H2 ⟨left, v6, v7, v8, v9, v10, v11, xs, rs, rfl, kH, oH, hpH, hT, hok, hcnt, hl0⟩
    refine ⟨_, rfl, p, _, rfl, .inl ⟨SqL.of hpH, fun t ht => ?_⟩⟩
    exact q _ rs _ (kH.trans (Keep.new ht)) (oH.new ht) hok (by omega) (Tn.new hT ht)
theorem ok_rows (T : Tops w K mg)
    (G1 : FnOk P w K mg base CX0 1 T.a__law_draw T.d__law_draw ["_law_state_here", "_law_many_here"] spDraw)
    (G2 : FnOk P w K mg base CX0 2 T.a__law_row T.d__law_row ["_law_state_here", "_law_shape"] (spRow K))
    (G3 : FnOk P w K mg base CX0 5 T.a__law_many T.d__law_many ["_law_rows_here"] (spMany K 5)) :
    ∀ k, FnOk P w K mg base CX0 (k + 5) T.a__law_rows T.d__law_rows ["_law_state_here", "_law_shape", "_law_depth", "_law_room"] (spRows K k)
  | 0 => by
    have no : ∀ vs H Q E, ¬ spRows K 0 vs H Q E := fun vs H Q E h => by
      obtain ⟨_, _, _, _, _, dep, _, _, _, _, h1, h2, _⟩ := h
      omega
    exact ⟨fun vs H Q E h => absurd h (no vs H Q E), fun A outer s H args us vs Q E _ _ _ _ h => absurd h (no vs H Q E)⟩
  | k + 1 => ok_rows1 T (n := k + 5) (by omega) G1 G2 G3 (ok_rows T G1 G2 G3 k)
end
end K09
namespace K09
open PySem PySem.Spec PyProof.Rows L2 Td
def spParts (K : PySem.W.Frag) : Sp := fun vs H Q _ => ∃ (st sc z : Addr) (a0 a1 a2 a3 a4 : Int) (pk wr : Bool),
  vs = [.ref st, .ref z, .bl pk, .bl wr] ∧ StOk H st sc ∧ SqL K H z [.int a0, .int a1, .int a2, .int a3, .int a4] ∧ z ≠ st ∧
  1 ≤ a0 ∧ a0 ≤ 3 ∧ 1 ≤ a1 ∧ a1 ≤ 4 ∧ 0 ≤ a2 ∧ a2 ≤ 6 ∧ 0 ≤ a3 ∧ a3 ≤ 4 ∧ 0 ≤ a4 ∧ a4 ≤ 15 ∧
  ∀ (v : V) (pp : PP) (H' : Hp), Keep st H H' → StOk H' st sc → pp.Ok (a4.toNat + 1) → Tn K H' v pp.data → Q v H'
/-- what stands while the bodies are drawn -/
structure PSt (K : PySem.W.Frag) (H0 H : Hp) (st sc aw pN p2 p4 pd pD : Addr) (ws srcs slots ns : List Str) (kd pk wr : V) (rd : List Str) (xs : List V) (ds : List (Str × List Td.Row)) : Prop where
  kp : Keep st H0 H
  ok : StOk H st sc
  wA : SqT K H aw (ws.map V.str)
  sA : SqT K H p4 (srcs.map V.str)
  nA : H pN = some (.lst (ns.map V.str))
  lA : H p2 = some (.lst (slots.map V.str))
  dA : ∃ pc, H pd = some (.dK (shp7 kd (.ref pc) (.ref p4) (.ref p2) (.ref aw) pk wr)) ∧ H pc = some (.lst (rd.map V.str)) ∧ pc ≠ st ∧ pc ≠ pD
  xA : H pD = some (.lst xs)
  tA : TnAll K H xs (ds.map Td.pairD)
structure PNe (H0 : Hp) (st sc aw pN p2 p4 pd pD : Addr) : Prop where
  naw : aw ≠ st
  npN : pN ≠ st
  np2 : p2 ≠ st
  np4 : p4 ≠ st
  npd : pd ≠ st
  npD : pD ≠ st
  ndc : pd ≠ sc
  nDc : pD ≠ sc
  d0 : H0 pd = none
  D0 : H0 pD = none
  nN : pN ≠ pD
  n2 : p2 ≠ pD
section
variable {K : PySem.W.Frag} {H0 H H' : Hp} {st sc aw pN p2 p4 pd pD : Addr} {ws srcs slots ns : List Str} {kd pk wr : V} {rd : List Str} {xs : List V} {ds : List (Str × List Td.Row)}
theorem StOk.chg (h : StOk H st sc) : Chg (H st) := by
  obtain ⟨L, hL⟩ := h.at
  rw [hL]; trivial
theorem PSt.keep (h : PSt K H0 H st sc aw pN p2 p4 pd pD ws srcs slots ns kd pk wr rd xs ds) (n : PNe H0 st sc aw pN p2 p4 pd pD) (k : Keep st H H') (o : StOk H' st sc) :
    PSt K H0 H' st sc aw pN p2 p4 pd pD ws srcs slots ns kd pk wr rd xs ds := by
  obtain ⟨pc, d1, d2, d3, d4⟩ := h.dA
  exact ⟨h.kp.trans k, o, SqT.keep k n.naw h.wA, SqT.keep k n.np4 h.sA, k _ _ n.npN h.nA, k _ _ n.np2 h.lA, ⟨pc, k _ _ n.npd d1, k _ _ d3 d2, d3, d4⟩, k _ _ n.npD h.xA,
    TnAll.keep (TK.of_keep k h.ok.chg) h.tA⟩
theorem PSt.new {p : Addr} {o : HO} (h : PSt K H0 H st sc aw pN p2 p4 pd pD ws srcs slots ns kd pk wr rd xs ds) (n : PNe H0 st sc aw pN p2 p4 pd pD) (hp : H p = none) :
    PSt K H0 (upd H p o) st sc aw pN p2 p4 pd pD ws srcs slots ns kd pk wr rd xs ds := h.keep n (Keep.new hp) (h.ok.new hp)
theorem PSt.shape {eff p r : Bool} (h : PSt K H0 H st sc aw pN p2 p4 pd pD ws srcs slots ns (.str (if eff then "effects" else "derived")) (.bl p) (.bl r) rd xs ds) (n : PNe H0 st sc aw pN p2 p4 pd pD)
    (hp : p = true → eff = true) (hr : r = true → eff = true) (w0 : ws ≠ []) (s0 : slots ≠ []) (c0 : rd ≠ []) (o0 : srcs ≠ []) (sm : ws.length ≤ 100 ∧ slots.length ≤ 100 ∧ rd.length ≤ 100 ∧ srcs.length ≤ 100) (g : ∀ z ∈ slots, isNm z = true) :
    ShapeAt K st H pd ⟨eff, ws, srcs, rd⟩ slots := by
  obtain ⟨pc, d1, d2, d3, d4⟩ := h.dA
  exact ⟨⟨_, aw, p2, pc, p4, p, r, d1, by show 7 ≤ 100; decide, get_words .., h.wA, n.naw, get_slots .., SqL.of h.lA, n.np2, get_cells .., SqL.of d2, d3, get_sources .., h.sA, n.np4, get_kind .., get_peeks .., get_writes .., hp, hr⟩, n.npd, w0, s0, c0, o0, sm, g⟩
theorem PSt.app {v : V} {q : Str × List Td.Row} (h : PSt K H0 H st sc aw pN p2 p4 pd pD ws srcs slots ns kd pk wr rd xs ds) (n : PNe H0 st sc aw pN p2 p4 pd pD) (tv : Tn K H v (Td.pairD q)) :
    PSt K H0 (upd H pD (.lst (xs ++ [v]))) st sc aw pN p2 p4 pd pD ws srcs slots ns kd pk wr rd (xs ++ [v]) (ds ++ [q]) := by
  obtain ⟨pc, d1, d2, d3, d4⟩ := h.dA
  have tk : TK H (upd H pD (.lst (xs ++ [v]))) := TK.upd (by rw [h.xA]; trivial)
  have ne1 : pd ≠ pD := ne_of d1 h.xA (by intro e; cases e)
  refine ⟨h.kp.own n.D0, h.ok.other n.npD n.nDc, SqT.tk tk h.wA, SqT.tk tk h.sA, by rw [upd_ne n.nN]; exact h.nA, by rw [upd_ne n.n2]; exact h.lA,
    ⟨pc, by rw [upd_ne ne1]; exact d1, by rw [upd_ne d4]; exact d2, d3, d4⟩, upd_same, ?_⟩
  rw [List.map_append]
  exact TnAll.append (TnAll.keep tk h.tA) (TnAll.one (Tn.keep tk tv))
/-- the dict is changed -/
theorem PSt.put {kd' pk' wr' : V} {rd' : List Str} {pc' : Addr} (h : PSt K H0 H st sc aw pN p2 p4 pd pD ws srcs slots ns kd pk wr rd xs ds) (n : PNe H0 st sc aw pN p2 p4 pd pD)
    (hc : H pc' = some (.lst (rd'.map V.str))) (h1 : pc' ≠ st) (h2 : pc' ≠ pD) :
    PSt K H0 (upd H pd (.dK (shp7 kd' (.ref pc') (.ref p4) (.ref p2) (.ref aw) pk' wr'))) st sc aw pN p2 p4 pd pD ws srcs slots ns kd' pk' wr' rd' xs ds := by
  obtain ⟨pc, d1, d2, d3, d4⟩ := h.dA
  have tk : TK H (upd H pd (.dK (shp7 kd' (.ref pc') (.ref p4) (.ref p2) (.ref aw) pk' wr'))) := TK.upd (by rw [d1]; trivial)
  exact ⟨h.kp.own n.d0, h.ok.other n.npd n.ndc, SqT.tk tk h.wA, SqT.tk tk h.sA, by rw [upd_ne (ne_of h.nA d1 (by intro e; cases e))]; exact h.nA, by rw [upd_ne (ne_of h.lA d1 (by intro e; cases e))]; exact h.lA,
    ⟨pc', upd_same, by rw [upd_ne (ne_of hc d1 (by intro e; cases e))]; exact hc, h1, h2⟩, by rw [upd_ne (ne_of h.xA d1 (by intro e; cases e))]; exact h.xA, TnAll.keep tk h.tA⟩
end
section
variable {P : Program} {w : World} {K : PySem.W.Frag} {mg : Str → Option Value} {base : Heap}
theorem ok_parts (T : Tops w K mg)
    (G__law_draw : FnOk P w K mg base CX0 1 T.a__law_draw T.d__law_draw ["_law_state_here", "_law_many_here"] spDraw)
    (G__law_names : FnOk P w K mg base CX0 2 T.a__law_names T.d__law_names ["_law_state_here", "_law_many_here"] spNames)
    (G__law_rows : FnOk P w K mg base CX0 10 T.a__law_rows T.d__law_rows ["_law_state_here", "_law_shape", "_law_depth", "_law_room"] (spRows K 5)) :
    FnOk P w K mg base CX0 11 T.a__law_parts T.d__law_parts ["_law_state_here", "_law_sizes", "_law_peeks", "_law_writes"] (spParts K) := by
  refine T.F__law_parts.ok sc_law_parts (fun vs H Q E h => ?_) (fun cdv A outer s H vs Q E hr h => ?_)
  · obtain ⟨st, sc, z, a0, a1, a2, a3, a4, pk, wr, rfl, _⟩ := h
    rfl
  obtain ⟨st, sc, z, a0, a1, a2, a3, a4, pk, wr, rfl, ok, hz, nz, a00, a01, a10, a11, a20, a21, a30, a31, a40, a41, q⟩ := h
  refine ⟨_, (pss_cons (ps_set (i := 4) sc_law_parts.nd rfl (Or.inl rfl) (pe_op op_add pe_int (pe_call G__law_draw (hr.mono (by omega)) rfl T.m__law_draw T.F__law_draw.kp T.b__law_draw .nil pass0 (pa_cons (pv 0) (pa_cons (pe_ix ix_list (pv 1) pe_int (fun _ _ => rfl)) pa_nil)))))
    (pss_cons (ps_set (i := 5) sc_law_parts.nd rfl (Or.inl rfl) (pe_op op_add pe_int (pe_call G__law_draw (hr.mono (by omega)) rfl T.m__law_draw T.F__law_draw.kp T.b__law_draw .nil pass0 (pa_cons (pv 0) (pa_cons (pe_ix ix_list (pv 1) pe_int (fun _ _ => rfl)) pa_nil)))))
    (pss_cons (ps_set (i := 6) sc_law_parts.nd rfl (Or.inl rfl) (pe_callB (call_max2 rfl) rfl T.z_max (by decide +kernel) (pa_cons (pe_call G__law_draw (hr.mono (by omega)) rfl T.m__law_draw T.F__law_draw.kp T.b__law_draw .nil pass0 (pa_cons (pv 0) (pa_cons (pe_op op_add (pe_ix ix_list (pv 1) pe_int (fun _ _ => rfl)) pe_int) pa_nil))) (pa_cons (pe_call G__law_draw (hr.mono (by omega)) rfl T.m__law_draw T.F__law_draw.kp T.b__law_draw .nil pass0 (pa_cons (pv 0) (pa_cons (pe_op op_add (pe_ix ix_list (pv 1) pe_int (fun _ _ => rfl)) pe_int) pa_nil))) pa_nil))))
    (pss_cons (ps_set (i := 7) sc_law_parts.nd rfl (Or.inl rfl) (pe_callB (call_max2 rfl) rfl T.z_max (by decide +kernel) (pa_cons (pe_call G__law_draw (hr.mono (by omega)) rfl T.m__law_draw T.F__law_draw.kp T.b__law_draw .nil pass0 (pa_cons (pv 0) (pa_cons (pe_op op_add (pe_ix ix_list (pv 1) pe_int (fun _ _ => rfl)) pe_int) pa_nil))) (pa_cons (pe_call G__law_draw (hr.mono (by omega)) rfl T.m__law_draw T.F__law_draw.kp T.b__law_draw .nil pass0 (pa_cons (pv 0) (pa_cons (pe_op op_add (pe_ix ix_list (pv 1) pe_int (fun _ _ => rfl)) pe_int) pa_nil))) pa_nil))))
    (pss_cons (ps_set (i := 8) sc_law_parts.nd rfl (Or.inl rfl) (pe_callTy call_tuple_of rfl T.z_tuple (by decide +kernel) (pa_cons (pe_call G__law_names (hr.mono (by omega)) rfl T.m__law_names T.F__law_names.kp T.b__law_names .nil pass0 (pa_cons (pv 0) (pa_cons (pv 4) pa_nil))) pa_nil)))
    (pss_cons (ps_set (i := 9) sc_law_parts.nd rfl (Or.inl rfl) (pe_call G__law_names (hr.mono (by omega)) rfl T.m__law_names T.F__law_names.kp T.b__law_names .nil pass0 (pa_cons (pv 0) (pa_cons (pe_op op_add (pe_op op_add (pv 5) (pv 6)) (pv 7)) pa_nil))))
    (C8.pss_cut (ps_if (PW.pt (pw_and (pt_cmpR op_eq (pe_call G__law_draw (hr.mono (by omega)) rfl T.m__law_draw T.F__law_draw.kp T.b__law_draw .nil pass0 (pa_cons (pv 0) (pa_cons pe_int pa_nil))) pe_int (nomark _)) (pw_and1 (pt_cmpR op_notIn_seq (pe_ix ix_list (pv 9) pe_int (fun _ _ => rfl)) (pv 8) (by rfl))))) (pss_one (ps_set (i := 8) sc_law_parts.nd rfl (Or.inl rfl) (pe_op op_catA (pe_slice sl_tupA (pv 8) (po_some pe_int) po_none) (pe_tup (pa_cons (pe_ix ix_list (pv 9) pe_int (fun _ _ => rfl)) pa_nil))))) pss_nil)
    (pss_cons (ps_set (i := 10) sc_law_parts.nd rfl (Or.inl rfl) (pe_op op_cat (pe_call G__law_names (hr.mono (by omega)) rfl T.m__law_names T.F__law_names.kp T.b__law_names .nil pass0 (pa_cons (pv 0) (pa_cons pe_int pa_nil))) (pe_lst (pa_cons (pe_ix ix_list (pv 9) pe_int (fun _ _ => rfl)) pa_nil))))
    (pss_cons (ps_set (i := 11) sc_law_parts.nd rfl (Or.inl rfl) (pe_callTy call_tuple_of rfl T.z_tuple (by decide +kernel) (pa_cons (pe_slice sl_list (pv 9) po_none (po_some (pv 5))) pa_nil)))
    (pss_cons (ps_set (i := 12) sc_law_parts.nd rfl (Or.inl rfl) (pe_disp (pps_cons pe_str pe_str (pps_cons pe_str (pe_callTy call_list_of rfl T.z_list (by decide +kernel) (pa_cons (pv 11) pa_nil)) (pps_cons pe_str (pv 11) (pps_cons pe_str (pv 10) (pps_cons pe_str (pv 8) pps_nil))))) (by rfl) (by rfl) (fun z => by cases z) (by decide)))
    (pss_cons (ps_dput (hu_of hr) (pv 12) pe_str pe_bl rfl)
    (pss_cons (ps_dput (hu_of hr) (pv 12) pe_str pe_bl rfl)
    (pss_cons (ps_set (i := 13) sc_law_parts.nd rfl (Or.inl rfl) (pe_lst pa_nil))
    (pss_cons (ps_for PassesOwn.never rfl (pi_range1 rfl T.z_range (pa_cons (pv 6) pa_nil)) (pg_name (i := 14) sc_law_parts.nd rfl (Or.inl rfl)) (pss_cons (ps_set (i := 15) sc_law_parts.nd rfl (Or.inl rfl) (pe_ix ix_list (pv 9) (pe_op op_add (pv 5) (pv 14)) (fun _ _ => rfl)))
    (pss_cons (ps_set (i := 16) sc_law_parts.nd rfl (Or.inl rfl) (pe_call G__law_rows (hr.mono (by omega)) rfl T.m__law_rows T.F__law_rows.kp T.b__law_rows .nil pass0 (pa_cons (pv 0) (pa_cons (pv 12) (pa_cons pe_int (pa_cons (pe_ix ix_list (pv 1) pe_int (fun _ _ => rfl)) pa_nil))))))
    (C8.pss_cut (ps_if (pt_cmpR op_gt (pe_call G__law_draw (hr.mono (by omega)) rfl T.m__law_draw T.F__law_draw.kp T.b__law_draw .nil pass0 (pa_cons (pv 0) (pa_cons pe_int pa_nil))) pe_int (nomark _)) (pss_one (ps_set (i := 16) sc_law_parts.nd rfl (Or.inl rfl) (pe_op op_catA (pv 16) (pe_tup (pa_cons (pe_tup (pa_cons pe_str (pa_cons (pe_ix ix_list (pv 10) (pe_call G__law_draw (hr.mono (by omega)) rfl T.m__law_draw T.F__law_draw.kp T.b__law_draw .nil pass0 (pa_cons (pv 0) (pa_cons pe_int pa_nil))) (fun _ _ => rfl)) pa_nil))) pa_nil))))) pss_nil)
    (pss_cons (ps_expr (pe_bm PySem.F.plainAttrs_list PySem.F.slot_list_append PySem.F.type_list_append mt_append (pv 13) (pa_cons (pe_tup (pa_cons (pv 15) (pa_cons (pv 16) pa_nil))) pa_nil)))
    (pss_one (ps_dput (hu_of hr) (pv 12) pe_str (pe_op op_cat (pe_dget (hu_of hr) (pv 12) pe_str (fun _ _ => rfl)) (pe_lst (pa_cons (pv 15) pa_nil))) rfl)))))))
    (pss_cons (ps_dput (hu_of hr) (pv 12) pe_str pe_str rfl)
    (pss_cons (ps_dput (hu_of hr) (pv 12) pe_str (pv 2) rfl)
    (pss_cons (ps_dput (hu_of hr) (pv 12) pe_str (pv 3) rfl)
    (pss_cons (ps_set (i := 17) sc_law_parts.nd rfl (Or.inl rfl) (pe_lst pa_nil))
    (pss_cons (ps_for PassesOwn.never rfl (pi_range1 rfl T.z_range (pa_cons (pv 7) pa_nil)) (pg_name (i := 14) sc_law_parts.nd rfl (Or.inl rfl)) (pss_cons (ps_set (i := 16) sc_law_parts.nd rfl (Or.inl rfl) (pe_call G__law_rows (hr.mono (by omega)) rfl T.m__law_rows T.F__law_rows.kp T.b__law_rows .nil pass0 (pa_cons (pv 0) (pa_cons (pv 12) (pa_cons pe_int (pa_cons (pe_ix ix_list (pv 1) pe_int (fun _ _ => rfl)) pa_nil))))))
    (C8.pss_cut (ps_if (pt_cmpR op_gt (pe_call G__law_draw (hr.mono (by omega)) rfl T.m__law_draw T.F__law_draw.kp T.b__law_draw .nil pass0 (pa_cons (pv 0) (pa_cons pe_int pa_nil))) pe_int (nomark _)) (pss_one (ps_set (i := 16) sc_law_parts.nd rfl (Or.inl rfl) (pe_op op_catA (pv 16) (pe_tup (pa_cons (pe_tup (pa_cons pe_str (pa_cons (pe_ix ix_list (pv 10) (pe_call G__law_draw (hr.mono (by omega)) rfl T.m__law_draw T.F__law_draw.kp T.b__law_draw .nil pass0 (pa_cons (pv 0) (pa_cons pe_int pa_nil))) (fun _ _ => rfl)) pa_nil))) pa_nil))))) pss_nil)
    (pss_one (ps_expr (pe_bm PySem.F.plainAttrs_list PySem.F.slot_list_append PySem.F.type_list_append mt_append (pv 17) (pa_cons (pe_tup (pa_cons (pe_ix ix_list (pv 9) (pe_op op_add (pe_op op_add (pv 5) (pv 6)) (pv 14)) (fun _ _ => rfl)) (pa_cons (pv 16) pa_nil))) pa_nil)))))))
    (pss_one (ps_ret (pe_tup (pa_cons (pv 8) (pa_cons (pv 11) (pa_cons (pe_callTy call_tuple_of rfl T.z_tuple (by decide +kernel) (pa_cons (pv 13) pa_nil)) (pa_cons (pe_callTy call_tuple_of rfl T.z_tuple (by decide +kernel) (pa_cons (pv 17) pa_nil)) pa_nil)))))))))))))))))))))))))), ?_⟩
  -- the four numbers
  refine ⟨_, rfl, _, rfl, z, _, 0, _, rfl, rfl, hz, rfl, st, sc, _, rfl, by omega, by omega, ok, fun mw H1 mw0 mw1 k1 o1 _ => ⟨_, _, rfl, rfl, ?_⟩⟩
  have z1 := SqL.keep k1 nz hz
  refine ⟨_, rfl, _, rfl, z, _, 1, _, rfl, rfl, z1, rfl, st, sc, _, rfl, by omega, by omega, o1, fun ms H2 ms0 ms1 k2 o2 _ => ⟨_, _, rfl, rfl, ?_⟩⟩
  have z2 := SqL.keep k2 nz z1
  refine ⟨_, rfl, _, rfl, z, _, 2, _, rfl, rfl, z2, rfl, _, _, rfl, rfl, st, sc, _, rfl, by omega, by omega, o2, fun d1 H3 d10 d11 k3 o3 _ => ?_⟩
  have z3 := SqL.keep k3 nz z2
  refine ⟨_, rfl, _, rfl, z, _, 2, _, rfl, rfl, z3, rfl, _, _, rfl, rfl, st, sc, _, rfl, by omega, by omega, o3, fun d2 H4 d20 d21 k4 o4 _ => ⟨_, _, rfl, ?_⟩⟩
  have z4 := SqL.keep k4 nz z3
  have md0 : 0 ≤ (if d2 > d1 then d2 else d1) ∧ (if d2 > d1 then d2 else d1) ≤ a2 := by split <;> omega
  generalize (if d2 > d1 then d2 else d1) = md at md0
  refine ⟨_, rfl, _, rfl, z, _, 3, _, rfl, rfl, z4, rfl, _, _, rfl, rfl, st, sc, _, rfl, by omega, by omega, o4, fun e1 H5 e10 e11 k5 o5 _ => ?_⟩
  have z5 := SqL.keep k5 nz z4
  refine ⟨_, rfl, _, rfl, z, _, 3, _, rfl, rfl, z5, rfl, _, _, rfl, rfl, st, sc, _, rfl, by omega, by omega, o5, fun e2 H6 e20 e21 k6 o6 _ => ⟨_, _, rfl, ?_⟩⟩
  have z6 := SqL.keep k6 nz z5
  have me0 : 0 ≤ (if e2 > e1 then e2 else e1) ∧ (if e2 > e1 then e2 else e1) ≤ a3 := by split <;> omega
  generalize (if e2 > e1 then e2 else e1) = me at me0
  have k06 : Keep st H H6 := k1.trans (k2.trans (k3.trans (k4.trans (k5.trans k6))))
  -- words, names
  refine ⟨_, rfl, _, rfl, st, sc, _, rfl, by omega, by omega, o6, fun pw ws H7 k7 o7 pw0 pws pwc pwL wl wN => ⟨pw, _, rfl, .inl ⟨SqL.of pwL, fun aw haw => ?_⟩⟩⟩
  have o8 : StOk (upd H7 aw (.tup (ws.map V.str))) st sc := o7.new haw
  have k8 : Keep st H (upd H7 aw (.tup (ws.map V.str))) := k06.trans (k7.trans (Keep.new haw))
  have w8 : SqT K (upd H7 aw (.tup (ws.map V.str))) aw (ws.map V.str) := SqT.of upd_same
  obtain ⟨naw, nawc⟩ := o7.ne haw
  show tSeq _ _ _ _ (upd H7 aw (.tup (ws.map V.str)))
  generalize upd H7 aw (.tup (ws.map V.str)) = H8 at o8 k8 w8
  refine ⟨_, rfl, _, rfl, _, rfl, _, _, rfl, rfl, _, rfl, _, _, rfl, rfl, st, sc, _, rfl, by omega, by omega, o8, fun pN ns H9 k9 o9 pN0 pNs pNc pNL nl nN => ?_⟩
  have k09 := k8.trans k9
  have w9 := SqT.keep k9 naw w8
  have z9 := SqL.keep k09 nz hz
  have hn0 : 0 < ns.length := by omega
  have n0at : atI (ns.map V.str) 0 = some (V.str ns[0]) := atI_nat (j := 0) (by rw [List.getElem?_map, List.getElem?_eq_getElem hn0]; rfl)
  -- the words may get the first name
  refine ⟨fun σ' H' => ∃ (aw : Addr) (ws : List Str), σ' = [some (.ref st), some (.ref z), some (.bl pk), some (.bl wr), some (.int (2 + mw)), some (.int (1 + ms)), some (.int md), some (.int me), some (.ref aw), some (.ref pN), none, none, none, none, none, none, none, none] ∧
    Keep st H H' ∧ StOk H' st sc ∧ SqT K H' aw (ws.map V.str) ∧ aw ≠ st ∧ H' pN = some (.lst (ns.map V.str)) ∧ (ws.length : Int) = 2 + mw ∧ Names ws, ?_, ?_⟩
  · refine ⟨_, rfl, st, sc, 4, rfl, by decide, by decide, o9, fun x H10 x0 x1 k10 o10 _ => ⟨rfl, _, rfl, ?_⟩⟩
    have w10 := SqT.keep k10 naw w9
    have L10 := k10 _ _ pNs pNL
    refine ite2 (fun _ => ?_) (fun _ => ⟨aw, ws, rfl, k09.trans k10, o10, w10, naw, L10, wl, wN⟩)
    refine ⟨_, rfl, pN, _, 0, _, rfl, rfl, SqL.of L10, n0at, _, rfl, aw, _, rfl, .inr w10, rfl, ?_, _, rfl, ?_⟩
    · exact L2.flat_strs ws
    refine ite2 (fun c => ?_) (fun _ => ⟨aw, ws, rfl, k09.trans k10, o10, w10, naw, L10, wl, wN⟩)
    have hnot : ns[0] ∉ ws := by
      have c' : (!inV (V.str ns[0]) (ws.map V.str)) = true := c
      rw [inV_strs] at c'
      simpa using c'
    have wsne : ws.map V.str ≠ [] := by
      intro e
      have := congrArg List.length e
      rw [List.length_map, List.length_nil] at this
      omega
    refine ⟨_, rfl, 1, rfl, aw, _, rfl, w10, fun hh => absurd hh (not_whole1 wsne none), fun _ p1 hp1 => ?_⟩
    have pN1 : upd H10 p1 (.tup (cutV (ws.map V.str) (some 1) none)) pN = some (.lst (ns.map V.str)) := by rw [upd_ne (ne_of_none L10 hp1)]; exact L10
    refine ⟨_, rfl, pN, _, 0, _, rfl, rfl, SqL.of pN1, n0at, by show 1 ≤ sizeLine; decide, fun p2 hp2 => ?_⟩
    have n12 : p1 ≠ p2 := fun e => by rw [← e, upd_same] at hp2; cases hp2
    have hp20 : H10 p2 = none := by rw [upd_ne (Ne.symm n12)] at hp2; exact hp2
    have drop_ne : cutV (ws.map V.str) (some 1) none ≠ [] := by
      rw [cut_from1]
      intro e
      have := congrArg List.length e
      rw [List.length_drop, List.length_map, List.length_nil] at this
      omega
    refine ⟨p1, p2, _, _, rfl, rfl, SqT.of (by rw [upd_ne n12, upd_same]), SqT.of upd_same, Nat.le_of_lt (small1000 ?_), fun e => absurd e drop_ne, fun _ e => (by cases e), fun _ _ p3 hp3 => ?_⟩
    · rw [cut_from1, List.length_drop, List.length_map]; show ws.length - 1 + 1 ≤ 1000; omega
    have k13 : Keep st H (upd (upd (upd H10 p1 (.tup (cutV (ws.map V.str) (some 1) none))) p2 (.tup [V.str ns[0]])) p3 (.tup (cutV (ws.map V.str) (some 1) none ++ [V.str ns[0]]))) :=
      (((k09.trans k10).trans (Keep.new hp1)).trans (Keep.new hp2)).trans (Keep.new hp3)
    have o13 := ((o10.new hp1 (o := .tup (cutV (ws.map V.str) (some 1) none))).new hp2 (o := .tup [V.str ns[0]])).new hp3 (o := .tup (cutV (ws.map V.str) (some 1) none ++ [V.str ns[0]]))
    refine ⟨p3, ws.drop 1 ++ [ns[0]], rfl, k13, o13, ?_, (((o10.new hp1).new hp2).ne hp3).1, ?_, ?_, wN.turn (nN.good _ (List.getElem_mem hn0)) hnot⟩
    · rw [cut_from1]
      have e : (ws.drop 1 ++ [ns[0]]).map V.str = (ws.map V.str).drop 1 ++ [V.str ns[0]] := by rw [List.map_append, List.map_drop]; rfl
      rw [e]
      exact SqT.of upd_same
    · rw [upd_ne (ne_of_none (by rw [upd_ne (ne_of_none pN1 hp2)]; exact pN1) hp3), upd_ne (ne_of_none pN1 hp2)]; exact pN1
    · rw [List.length_append, List.length_drop]; show ((ws.length - 1 + 1 : Nat) : Int) = 2 + mw; omega
  · clear wl wN w9 w8 naw nawc haw aw ws pwL pws pw0 pwc
    rintro σ' H11 ⟨aw, ws, rfl, k11, o11, w11, naw, L11, wl, wN⟩
    -- slots
    refine ⟨_, rfl, st, sc, _, rfl, by decide, by decide, o11, fun pS ss H12 k12 o12 pS0 pSs pSc pSL sl sN => ?_⟩
    have L12 := k12 _ _ pNs L11
    refine ⟨_, rfl, pN, _, 0, _, rfl, rfl, SqL.of L12, n0at, by show 1 ≤ sizeLine; decide, fun p1 hp1 => ?_⟩
    refine ⟨pS, p1, _, _, rfl, rfl, by rw [upd_ne (ne_of_none pSL hp1)]; exact pSL, upd_same, Nat.le_of_lt (small1000 (by rw [List.length_map]; show ss.length + 1 ≤ 1000; omega)), fun p2 hp2 => ?_⟩
    have k13 : Keep st H11 (upd (upd H12 p1 (.lst [V.str ns[0]])) p2 (.lst (ss.map V.str ++ [V.str ns[0]]))) := k12.trans ((Keep.new hp1).trans (Keep.new hp2))
    have o13 := (o12.new hp1 (o := .lst [V.str ns[0]])).new hp2 (o := .lst (ss.map V.str ++ [V.str ns[0]]))
    obtain ⟨np2, np2c⟩ := (o12.new hp1 (o := .lst [V.str ns[0]])).ne hp2
    have es : ss.map V.str ++ [V.str ns[0]] = (ss ++ [ns[0]]).map V.str := by rw [List.map_append]; rfl
    have S13 : upd (upd H12 p1 (.lst [V.str ns[0]])) p2 (.lst (ss.map V.str ++ [V.str ns[0]])) p2 = some (.lst ((ss ++ [ns[0]]).map V.str)) := by rw [upd_same, es]
    have slg : ∀ y ∈ ss ++ [ns[0]], isNm y = true := fun y hy => by
      rcases List.mem_append.mp hy with h | h
      · exact sN.good y h
      · rw [List.mem_singleton.mp h]; exact nN.good _ (List.getElem_mem hn0)
    have sln : (ss ++ [ns[0]]).length = 3 := by rw [List.length_append]; show ss.length + 1 = 3; omega
    show tSeq _ _ _ _ (upd (upd H12 p1 (.lst [V.str ns[0]])) p2 (.lst (ss.map V.str ++ [V.str ns[0]])))
    generalize upd (upd H12 p1 (.lst [V.str ns[0]])) p2 (.lst (ss.map V.str ++ [V.str ns[0]])) = H13 at k13 o13 S13
    generalize ss ++ [ns[0]] = slots at S13 slg sln
    -- sources
    have L13 := k13 _ _ pNs L11
    have msn : ((1 + ms).toNat : Nat) ≤ ns.length := by omega
    have ecut : cutV (ns.map V.str) none (some (1 + ms)) = (ns.take (1 + ms).toNat).map V.str := by
      have := cut_to (ns.map V.str) (1 + ms).toNat (by rw [List.length_map]; omega)
      rw [show (((1 + ms).toNat : Nat) : Int) = 1 + ms by omega] at this
      rw [this, List.map_take]
    refine ⟨_, rfl, _, rfl, _, rfl, pN, _, rfl, SqL.of L13, fun p3 hp3 => ⟨p3, _, rfl, .inl ⟨SqL.of upd_same, fun p4 hp4 => ?_⟩⟩⟩
    rw [ecut] at hp4 ⊢
    have k14 : Keep st H13 (upd (upd H13 p3 (.lst ((ns.take (1 + ms).toNat).map V.str))) p4 (.tup ((ns.take (1 + ms).toNat).map V.str))) := (Keep.new hp3).trans (Keep.new hp4)
    have o14 := (o13.new hp3 (o := .lst ((ns.take (1 + ms).toNat).map V.str))).new hp4 (o := .tup ((ns.take (1 + ms).toNat).map V.str))
    have S14 : SqT K (upd (upd H13 p3 (.lst ((ns.take (1 + ms).toNat).map V.str))) p4 (.tup ((ns.take (1 + ms).toNat).map V.str))) p4 ((ns.take (1 + ms).toNat).map V.str) := SqT.of upd_same
    obtain ⟨np4, np4c⟩ := (o13.new hp3 (o := .lst ((ns.take (1 + ms).toNat).map V.str))).ne hp4
    have srl : (ns.take (1 + ms).toNat).length = (1 + ms).toNat := by rw [List.length_take]; omega
    show tSeq _ _ _ _ (upd (upd H13 p3 (.lst ((ns.take (1 + ms).toNat).map V.str))) p4 (.tup ((ns.take (1 + ms).toNat).map V.str)))
    generalize upd (upd H13 p3 (.lst ((ns.take (1 + ms).toNat).map V.str))) p4 (.tup ((ns.take (1 + ms).toNat).map V.str)) = H14 at k14 o14 S14
    -- the shape
    refine fun pd hpd => ?_
    obtain ⟨npd, npdc⟩ := o14.ne hpd
    refine ⟨_, rfl, p4, _, rfl, .inr (SqT.same (Same.new hpd _) S14), fun p5 hp5 => ?_⟩
    have np5 : p5 ≠ pd := fun e => by rw [e, upd_same] at hp5; cases hp5
    have hp50 : H14 p5 = none := by rw [upd_ne np5] at hp5; exact hp5
    obtain ⟨np5s, np5c⟩ := o14.ne hp50
    refine ⟨_, rfl, _, rfl, _, rfl, by rw [upd_ne (Ne.symm np5), upd_same], shp (.str "derived") (.ref p5) (.ref p4) (.ref p2) (.ref aw), rfl, by show 5 ≤ 15; decide, ?_⟩
    rw [shp_merge]
    refine ⟨_, rfl, pd, _, rfl, DPut.k (k := Sum.inr "peeks") upd_same (small1000 (by show 5 ≤ 1000; decide)), ?_⟩
    rw [shp_peeks, upd_upd]
    refine ⟨_, rfl, pd, _, rfl, DPut.k (k := Sum.inr "writes") upd_same (small1000 (by show 6 ≤ 1000; decide)), ?_⟩
    rw [shp_writes, upd_upd]
    -- derived = []
    refine ⟨Nat.zero_le _, fun pD hpD => ?_⟩
    generalize hse : ns.take (1 + ms).toNat = srcs at S14 srl hpD hp5 ⊢
    have k1114 := k13.trans k14
    have k1014 := k11.trans k1114
    have d0 : H pd = none := k1014.free npd hpd
    have k15 : Keep st H14 (upd (upd (upd H14 pd (.dK [])) p5 (.lst (srcs.map V.str))) pd (.dK (shp7 (.str "derived") (.ref p5) (.ref p4) (.ref p2) (.ref aw) (.bl false) (.bl false)))) :=
      ((Keep.new hpd).trans (Keep.new hp5)).own hpd
    have o15 : StOk (upd (upd (upd H14 pd (.dK [])) p5 (.lst (srcs.map V.str))) pd (.dK (shp7 (.str "derived") (.ref p5) (.ref p4) (.ref p2) (.ref aw) (.bl false) (.bl false)))) st sc :=
      ((o14.new hpd).new hp5).other npd npdc
    have dd15 : upd (upd (upd H14 pd (.dK [])) p5 (.lst (srcs.map V.str))) pd (.dK (shp7 (.str "derived") (.ref p5) (.ref p4) (.ref p2) (.ref aw) (.bl false) (.bl false))) pd = some (.dK (shp7 (.str "derived") (.ref p5) (.ref p4) (.ref p2) (.ref aw) (.bl false) (.bl false))) := upd_same
    have pc15 : upd (upd (upd H14 pd (.dK [])) p5 (.lst (srcs.map V.str))) pd (.dK (shp7 (.str "derived") (.ref p5) (.ref p4) (.ref p2) (.ref aw) (.bl false) (.bl false))) p5 = some (.lst (srcs.map V.str)) := by rw [upd_ne np5, upd_same]
    generalize upd (upd (upd H14 pd (.dK [])) p5 (.lst (srcs.map V.str))) pd (.dK (shp7 (.str "derived") (.ref p5) (.ref p4) (.ref p2) (.ref aw) (.bl false) (.bl false))) = H15 at k15 o15 dd15 pc15 hpD ⊢
    have k1115 := k1114.trans k15
    have kH15 := k1014.trans k15
    obtain ⟨npD, npDc⟩ := o15.ne hpD
    have D0 : H pD = none := kH15.free npD hpD
    have L15 := k1115 _ _ pNs L11
    have S15 := (k14.trans k15) _ _ np2 S13
    have ne : PNe H st sc aw pN p2 p4 pd pD := ⟨naw, pNs, np2, np4, npd, npD, npdc, npDc, d0, D0, ne_of_none L15 hpD, ne_of_none S15 hpD⟩
    have ps0 : PSt K H (upd H15 pD (.lst [])) st sc aw pN p2 p4 pd pD ws srcs slots ns (.str "derived") (.bl false) (.bl false) srcs [] [] :=
      ⟨kH15.trans (Keep.new hpD), o15.new hpD, SqT.keep (k1115.trans (Keep.new hpD)) naw w11, SqT.keep (k15.trans (Keep.new hpD)) np4 S14, (Keep.new hpD) _ _ pNs L15, (Keep.new hpD) _ _ np2 S15,
        ⟨p5, (Keep.new hpD) _ _ npd dd15, (Keep.new hpD) _ _ np5s pc15, np5s, ne_of_none pc15 hpD⟩, upd_same, .nil⟩
    have w0 : ws ≠ [] := fun e => by rw [e] at wl; simp at wl; omega
    have sl0 : slots ≠ [] := fun e => by rw [e] at sln; simp at sln
    have so0 : srcs ≠ [] := fun e => by rw [e] at srl; simp at srl; omega
    have w100 : ws.length ≤ 100 := by omega
    have sr100 : srcs.length ≤ 100 := by omega
    -- the derived cells
    refine ⟨_, rfl, md, rfl, by omega, by omega, for_range (lo := 0) (n := md.toNat) (fun i σ H' => ∃ (v14 v15 v16 : Option V) (xs : List V) (ds : List (Str × List Td.Row)),
      σ = [some (.ref st), some (.ref z), some (.bl pk), some (.bl wr), some (.int (2 + mw)), some (.int (1 + ms)), some (.int md), some (.int me), some (.ref aw), some (.ref pN), some (.ref p2), some (.ref p4), some (.ref pd), some (.ref pD), v14, v15, v16, none] ∧
      PSt K H H' st sc aw pN p2 p4 pd pD ws srcs slots ns (.str "derived") (.bl false) (.bl false) (srcs ++ ds.map (·.1)) xs ds ∧ ds.length = i ∧ ds.map (·.1) = (ns.drop (1 + ms).toNat).take i ∧ okDer ws srcs (a4.toNat + 1) srcs ds)
      ⟨none, none, none, [], [], rfl, by simpa using ps0, rfl, by simp, by unfold okDer; trivial⟩ ?_ ?_⟩
    · rintro i σ H1 hi ⟨v14, v15, v16, xs, ds, rfl, ps, dl, dn, dok⟩
      have hil : (1 + ms).toNat + i < ns.length := by omega
      have hat : atI (ns.map V.str) (1 + ms + (0 + (i : Int))) = some (V.str ns[(1 + ms).toNat + i]) := by
        have : atI (ns.map V.str) (((1 + ms).toNat + i : Nat) : Int) = some (V.str ns[(1 + ms).toNat + i]) := atI_nat (by rw [List.getElem?_map, List.getElem?_eq_getElem hil]; rfl)
        rwa [show (((1 + ms).toNat + i : Nat) : Int) = 1 + ms + (0 + (i : Int)) by omega] at this
      refine ⟨_, rfl, _, rfl, _, rfl, _, _, rfl, rfl, pN, _, _, _, rfl, rfl, SqL.of ps.nA, hat, ?_⟩
      generalize hnm : ns[(1 + ms).toNat + i] = nm at hat
      have xl : xs.length = ds.length := by rw [ps.tA.length, List.length_map]
      have sh := ps.shape (eff := false) ne (fun h => nomatch h) (fun h => nomatch h) w0 sl0 (by simp [so0]) so0 ⟨w100, by omega, by rw [List.length_append, List.length_map]; omega, sr100⟩ slg
      refine ⟨_, rfl, _, rfl, _, rfl, z, _, 4, _, rfl, rfl, SqL.keep ps.kp nz hz, rfl, st, sc, pd, _, slots, 1, a4, rfl, ps.ok, sh, by decide, by decide, a40, by omega, fun rv rs H2 k2 o2 okr cr tr => ?_⟩
      have ps2 := ps.keep ne k2 o2
      refine ⟨fun σ' H' => ∃ (rv' : V) (rs' : List Td.Row), σ' = [some (.ref st), some (.ref z), some (.bl pk), some (.bl wr), some (.int (2 + mw)), some (.int (1 + ms)), some (.int md), some (.int me), some (.ref aw), some (.ref pN), some (.ref p2), some (.ref p4), some (.ref pd), some (.ref pD), some (.int (0 + (i : Int))), some (.str nm), some rv', none] ∧
        PSt K H H' st sc aw pN p2 p4 pd pD ws srcs slots ns (.str "derived") (.bl false) (.bl false) (srcs ++ ds.map (·.1)) xs ds ∧ okRs ⟨false, ws, srcs, srcs ++ ds.map (·.1)⟩ 1 rs' ∧ Lim false (a4.toNat + 1) rs' ∧ Tn K H' rv' (.tuple (rowsD rs')), ?_, ?_⟩
      · refine ⟨_, rfl, st, sc, 4, rfl, by decide, by decide, o2, fun x H3 x0 x1 k3 o3 _ => ⟨_, _, rfl, rfl, _, rfl, ?_⟩⟩
        have ps3 := ps2.keep ne k3 o3
        have tr3 := Tn.keep (TK.of_keep k3 o2.chg) tr
        refine ite2 (fun _ => ?_) (fun _ => ⟨rv, rs, rfl, ps3, okr, ⟨by omega, rs, [], (List.append_nil rs).symm, by omega, .inl rfl⟩, tr3⟩)
        obtain ⟨ar, ys, rfl, hS3, hT3⟩ := Tn.tup_inv tr3
        have yl : ys.length = rs.length := by rw [hT3.length, rowsD_length]
        have := cnts_len rs
        refine ⟨_, rfl, _, rfl, _, rfl, st, sc, 3, rfl, by decide, by decide, o3, fun y H4 y0 y1 k4 o4 _ => ?_⟩
        have ps4 := ps3.keep ne k4 o4
        obtain ⟨sl, hsl, esl⟩ := pick (xs := slots) y0 (by rw [List.length_map]; omega)
        refine ⟨p2, _, y, _, rfl, rfl, SqL.of ps4.lA, esl, by show 2 ≤ sizeLine; decide, fun t1 ht1 => ⟨by show 1 ≤ sizeLine; decide, fun t2 ht2 => ?_⟩⟩
        have g1 : Tn K (upd H4 t1 (.tup [.str "give", .str sl])) (.ref t1) (rowD (.give sl)) := by unfold rowD; exact Tn.new (TnAll.strs ["give", sl]) ht1
        have g2 := Tn.new (TnAll.one g1) ht2
        have ps5 := (ps4.new ne ht1 (o := .tup [.str "give", .str sl])).new ne ht2 (o := .tup [.ref t1])
        have tkx : TK H3 (upd (upd H4 t1 (.tup [.str "give", .str sl])) t2 (.tup [.ref t1])) := ((TK.of_keep k4 o3.chg).trans (TK.of_same (Same.new ht1 _))).trans (TK.of_same (Same.new ht2 _))
        have okg : okRs ⟨false, ws, srcs, srcs ++ ds.map (·.1)⟩ 1 (rs ++ [Td.Row.give sl]) := okRs_append okr (okRs_one (by unfold okR; exact ⟨rfl, slg sl hsl⟩))
        have cg : Lim false (a4.toNat + 1) (rs ++ [Td.Row.give sl]) := ⟨by rw [cnts_append, cnts_one]; show cnts rs + 1 ≤ _; omega, rs, [.give sl], rfl, by omega, .inr ⟨sl, rfl⟩⟩
        refine ⟨ar, t2, ys, [.ref t1], rfl, rfl, SqT.tk tkx hS3, SqT.of upd_same, Nat.le_of_lt (small1000 (by show ys.length + 1 ≤ 1000; omega)), fun e => ?_, fun _ e => (by cases e), fun _ _ t3 ht3 => ?_⟩
        · have er : rs = [] := by
            rw [e] at yl
            exact List.length_eq_zero_iff.mp yl.symm
          refine ⟨_, rs ++ [.give sl], rfl, ps5, okg, cg, ?_⟩
          rw [er]
          exact g2
        · refine ⟨_, rs ++ [.give sl], rfl, ps5.new ne ht3, okg, cg, ?_⟩
          rw [rowsD_append, rowsD_one]
          exact Tn.new (TnAll.append (TnAll.keep tkx hT3) (TnAll.one (Tn.keep (TK.of_same (Same.new ht2 _)) g1))) ht3
      · rintro σ' H3 ⟨rv', rs', rfl, ps3, okr', cr', tr'⟩
        refine ⟨_, rfl, .inl ⟨rfl, _, SqL.of ps3.xA⟩, _, rfl, _, rfl, by show 2 ≤ sizeLine; decide, fun t ht => ?_⟩
        have ps4 := ps3.new ne ht (o := .tup [.str nm, rv'])
        have tp : Tn K (upd H3 t (.tup [.str nm, rv'])) (.ref t) (Td.pairD (nm, rs')) := Tn.new (.cons (.str nm) (TnAll.one tr')) ht
        refine ⟨pD, _, _, rfl, rfl, ps4.xA, small1000 (by omega), ?_⟩
        have ps5 := ps4.app ne tp
        obtain ⟨pc, c1, c2, c3, c4⟩ := ps5.dA
        refine ⟨_, rfl, pd, _, rfl, dget_of c1 (get_cells ..), _, rfl, by show 1 ≤ sizeLine; decide, fun l hl => ?_⟩
        have ps6 := ps5.new ne hl (o := .lst [.str nm])
        refine ⟨pc, l, _, _, rfl, rfl, by rw [upd_ne (ne_of_none c2 hl)]; exact c2, upd_same, Nat.le_of_lt (small1000 ?_), fun l2 hl2 => ?_⟩
        · rw [List.length_map, List.length_append, List.length_map]; show srcs.length + ds.length + 1 ≤ 1000; omega
        have ps7 := ps6.new ne hl2 (o := .lst ((srcs ++ ds.map (·.1)).map V.str ++ [.str nm]))
        obtain ⟨pc', e1, e2, e3, e4⟩ := ps7.dA
        refine ⟨_, rfl, pd, _, rfl, DPut.k (k := Sum.inr "cells") e1 (small1000 (by show 7 ≤ 1000; decide)), ?_⟩
        rw [shp7_cells]
        have er : (srcs ++ ds.map (·.1)).map V.str ++ [V.str nm] = (srcs ++ (ds ++ [(nm, rs')]).map (·.1)).map V.str := by simp
        have ps8 := ps7.put (kd' := .str "derived") (pk' := .bl false) (wr' := .bl false) (rd' := srcs ++ (ds ++ [(nm, rs')]).map (·.1)) (pc' := l2) ne (by rw [upd_same, er])
          (ps6.ok.ne hl2).1 (Ne.symm (ne_of_none ps6.xA hl2))
        refine ⟨_, _, _, _, ds ++ [(nm, rs')], rfl, ps8, by rw [List.length_append, dl]; rfl, ?_, okDer_snoc dok okr' cr'⟩
        rw [List.map_append, dn]
        have hx : i < (ns.drop (1 + ms).toNat).length := by rw [List.length_drop]; omega
        rw [List.take_succ_eq_append_getElem hx, List.getElem_drop, hnm]
        rfl
    · rintro σ H1 ⟨v14, v15, v16, xs, ds, rfl, ps, dl, dn, dok⟩
      -- the shape of effects
      obtain ⟨pc, c1, c2, c3, c4⟩ := ps.dA
      refine ⟨_, rfl, pd, _, rfl, DPut.k (k := Sum.inr "kind") c1 (small1000 (by show 7 ≤ 1000; decide)), ?_⟩
      rw [shp7_kind]
      have ps1 := ps.put (kd' := .str "effects") (pk' := .bl false) (wr' := .bl false) ne c2 c3 c4
      refine ⟨_, rfl, _, rfl, pd, _, rfl, DPut.k (k := Sum.inr "peeks") upd_same (small1000 (by show 7 ≤ 1000; decide)), ?_⟩
      rw [shp7_peeks, upd_upd]
      refine ⟨_, rfl, _, rfl, pd, _, rfl, DPut.k (k := Sum.inr "writes") upd_same (small1000 (by show 7 ≤ 1000; decide)), ?_⟩
      rw [shp7_writes, upd_upd]
      have ps3 := ps.put (kd' := .str "effects") (pk' := .bl pk) (wr' := .bl wr) ne c2 c3 c4
      refine ⟨Nat.zero_le _, fun pE hpE => ?_⟩
      show tSeq _ _ _ _ (upd (upd H1 pd (.dK (shp7 (.str "effects") (.ref pc) (.ref p4) (.ref p2) (.ref aw) (.bl pk) (.bl wr)))) pE (.lst []))
      generalize upd H1 pd (.dK (shp7 (.str "effects") (.ref pc) (.ref p4) (.ref p2) (.ref aw) (.bl pk) (.bl wr))) = H2 at ps3 hpE
      obtain ⟨npE, npEc⟩ := ps3.ok.ne hpE
      have nDE : pD ≠ pE := ne_of_none ps3.xA hpE
      have nE : PNe H st sc aw pN p2 p4 pd pE := ⟨naw, pNs, np2, np4, npd, npE, npdc, npEc, d0, ps3.kp.free npE hpE, ne_of_none ps3.nA hpE, ne_of_none ps3.lA hpE⟩
      have pe0 : PSt K H (upd H2 pE (.lst [])) st sc aw pN p2 p4 pd pE ws srcs slots ns (.str "effects") (.bl pk) (.bl wr) (srcs ++ ds.map (·.1)) [] [] := by
        have pn := ps3.new ne hpE (o := .lst [])
        obtain ⟨pc', e1, e2, e3, e4⟩ := ps3.dA
        exact ⟨pn.kp, pn.ok, pn.wA, pn.sA, pn.nA, pn.lA, ⟨pc', (Keep.new hpE (st := st)) _ _ npd e1, (Keep.new hpE (st := st)) _ _ e3 e2, e3, ne_of_none e2 hpE⟩, upd_same, .nil⟩
      have xl : xs.length = ds.length := by rw [ps.tA.length, List.length_map]
      have ddl : ds.length ≤ 6 := by omega
      refine ⟨_, rfl, me, rfl, by omega, by omega, for_range (lo := 0) (n := me.toNat) (fun i σ H' => ∃ (v14 v16 : Option V) (ys : List V) (es : List (Str × List Td.Row)),
        σ = [some (.ref st), some (.ref z), some (.bl pk), some (.bl wr), some (.int (2 + mw)), some (.int (1 + ms)), some (.int md), some (.int me), some (.ref aw), some (.ref pN), some (.ref p2), some (.ref p4), some (.ref pd), some (.ref pD), v14, v15, v16, some (.ref pE)] ∧
        PSt K H H' st sc aw pN p2 p4 pd pE ws srcs slots ns (.str "effects") (.bl pk) (.bl wr) (srcs ++ ds.map (·.1)) ys es ∧ H' pD = some (.lst xs) ∧ TnAll K H' xs (ds.map Td.pairD) ∧ es.length = i ∧ es.map (·.1) = (ns.drop ((1 + ms).toNat + md.toNat)).take i ∧ okEff ws srcs (srcs ++ ds.map (·.1)) (a4.toNat + 1) es)
        ⟨v14, v16, [], [], rfl, pe0, by rw [upd_ne nDE]; exact ps3.xA, TnAll.keep (TK.of_same (Same.new hpE _)) ps3.tA, rfl, by simp, by unfold okEff; trivial⟩ ?_ ?_⟩
      · rintro i σ H3 hi ⟨v14, v16, ys, es, rfl, pe, sX, sT, el, en, eok⟩
        have hil : (1 + ms).toNat + md.toNat + i < ns.length := by omega
        have hat : atI (ns.map V.str) (1 + ms + md + (0 + (i : Int))) = some (V.str ns[(1 + ms).toNat + md.toNat + i]) := by
          have : atI (ns.map V.str) (((1 + ms).toNat + md.toNat + i : Nat) : Int) = some (V.str ns[(1 + ms).toNat + md.toNat + i]) := atI_nat (by rw [List.getElem?_map, List.getElem?_eq_getElem hil]; rfl)
          rwa [show (((1 + ms).toNat + md.toNat + i : Nat) : Int) = 1 + ms + md + (0 + (i : Int)) by omega] at this
        generalize hnm : ns[(1 + ms).toNat + md.toNat + i] = nm at hat
        have yl : ys.length = es.length := by rw [pe.tA.length, List.length_map]
        have sh := pe.shape (eff := true) nE (fun _ => rfl) (fun _ => rfl) w0 sl0 (by simp [so0]) so0 ⟨w100, by omega, by rw [List.length_append, List.length_map]; omega, sr100⟩ slg
        refine ⟨_, rfl, _, rfl, _, rfl, z, _, 4, _, rfl, rfl, SqL.keep pe.kp nz hz, rfl, st, sc, pd, _, slots, 1, a4, rfl, pe.ok, sh, by decide, by decide, a40, by omega, fun rv rs H4 k4 o4 okr cr tr => ?_⟩
        have pe4 := pe.keep nE k4 o4
        have sX4 := k4 _ _ npD sX
        have sT4 := TnAll.keep (TK.of_keep k4 pe.ok.chg) sT
        refine ⟨fun σ' H' => ∃ (rv' : V) (rs' : List Td.Row), σ' = [some (.ref st), some (.ref z), some (.bl pk), some (.bl wr), some (.int (2 + mw)), some (.int (1 + ms)), some (.int md), some (.int me), some (.ref aw), some (.ref pN), some (.ref p2), some (.ref p4), some (.ref pd), some (.ref pD), some (.int (0 + (i : Int))), v15, some rv', some (.ref pE)] ∧
          PSt K H H' st sc aw pN p2 p4 pd pE ws srcs slots ns (.str "effects") (.bl pk) (.bl wr) (srcs ++ ds.map (·.1)) ys es ∧ H' pD = some (.lst xs) ∧ TnAll K H' xs (ds.map Td.pairD) ∧ okRs ⟨true, ws, srcs, srcs ++ ds.map (·.1)⟩ 1 rs' ∧ Lim true (a4.toNat + 1) rs' ∧ Tn K H' rv' (.tuple (rowsD rs')), ?_, ?_⟩
        · refine ⟨_, rfl, st, sc, 4, rfl, by decide, by decide, o4, fun x H5 x0 x1 k5 o5 _ => ⟨_, _, rfl, rfl, _, rfl, ?_⟩⟩
          have pe5 := pe4.keep nE k5 o5
          have tr5 := Tn.keep (TK.of_keep k5 o4.chg) tr
          have sX5 := k5 _ _ npD sX4
          have sT5 := TnAll.keep (TK.of_keep k5 o4.chg) sT4
          refine ite2 (fun _ => ?_) (fun _ => ⟨rv, rs, rfl, pe5, sX5, sT5, okr, ⟨by omega, rs, [], (List.append_nil rs).symm, by omega, .inl rfl⟩, tr5⟩)
          obtain ⟨ar, us, rfl, hS5, hT5⟩ := Tn.tup_inv tr5
          have ul : us.length = rs.length := by rw [hT5.length, rowsD_length]
          have := cnts_len rs
          refine ⟨_, rfl, _, rfl, _, rfl, st, sc, 3, rfl, by decide, by decide, o5, fun y H6 y0 y1 k6 o6 _ => ?_⟩
          have pe6 := pe5.keep nE k6 o6
          obtain ⟨sl, hsl, esl⟩ := pick (xs := slots) y0 (by rw [List.length_map]; omega)
          refine ⟨p2, _, y, _, rfl, rfl, SqL.of pe6.lA, esl, by show 2 ≤ sizeLine; decide, fun t1 ht1 => ⟨by show 1 ≤ sizeLine; decide, fun t2 ht2 => ?_⟩⟩
          have g1 : Tn K (upd H6 t1 (.tup [.str "say", .str sl])) (.ref t1) (rowD (.say sl)) := by unfold rowD; exact Tn.new (TnAll.strs ["say", sl]) ht1
          have g2 := Tn.new (TnAll.one g1) ht2
          have pe7 := (pe6.new nE ht1 (o := .tup [.str "say", .str sl])).new nE ht2 (o := .tup [.ref t1])
          have kx : Keep st H5 (upd (upd H6 t1 (.tup [.str "say", .str sl])) t2 (.tup [.ref t1])) := (k6.trans (Keep.new ht1)).trans (Keep.new ht2)
          have tkx := TK.of_keep kx o5.chg
          have sX7 := kx _ _ npD sX5
          have sT7 := TnAll.keep tkx sT5
          have okg : okRs ⟨true, ws, srcs, srcs ++ ds.map (·.1)⟩ 1 (rs ++ [Td.Row.say sl]) := okRs_append okr (okRs_one (by unfold okR; exact ⟨rfl, slg sl hsl⟩))
          have cg : Lim true (a4.toNat + 1) (rs ++ [Td.Row.say sl]) := ⟨by rw [cnts_append, cnts_one]; show cnts rs + 1 ≤ _; omega, rs, [.say sl], rfl, by omega, .inr ⟨sl, rfl⟩⟩
          refine ⟨ar, t2, us, [.ref t1], rfl, rfl, SqT.tk tkx hS5, SqT.of upd_same, Nat.le_of_lt (small1000 (by show us.length + 1 ≤ 1000; omega)), fun e => ?_, fun _ e => (by cases e), fun _ _ t3 ht3 => ?_⟩
          · have er : rs = [] := by
              rw [e] at ul
              exact List.length_eq_zero_iff.mp ul.symm
            refine ⟨_, rs ++ [.say sl], rfl, pe7, sX7, sT7, okg, cg, ?_⟩
            rw [er]
            exact g2
          · refine ⟨_, rs ++ [.say sl], rfl, pe7.new nE ht3, (Keep.new ht3 (st := st)) _ _ npD sX7, TnAll.keep (TK.of_same (Same.new ht3 _)) sT7, okg, cg, ?_⟩
            rw [rowsD_append, rowsD_one]
            exact Tn.new (TnAll.append (TnAll.keep tkx hT5) (TnAll.one (Tn.keep (TK.of_same (Same.new ht2 _)) g1))) ht3
        · rintro σ' H5 ⟨rv', rs', rfl, pe5, sX5, sT5, okr', cr', tr'⟩
          refine ⟨_, rfl, .inl ⟨rfl, _, SqL.of pe5.xA⟩, _, rfl, _, rfl, _, rfl, _, _, rfl, rfl, _, rfl, _, _, rfl, rfl, pN, _, _, _, rfl, rfl, SqL.of pe5.nA, hat, _, rfl, by show 2 ≤ sizeLine; decide, fun t ht => ?_⟩
          have pe6 := pe5.new nE ht (o := .tup [.str nm, rv'])
          have tp : Tn K (upd H5 t (.tup [.str nm, rv'])) (.ref t) (Td.pairD (nm, rs')) := Tn.new (.cons (.str nm) (TnAll.one tr')) ht
          refine ⟨pE, _, _, rfl, rfl, pe6.xA, small1000 (by omega), ?_⟩
          have pe7 := pe6.app nE tp
          have sX6 : upd H5 t (.tup [.str nm, rv']) pD = some (.lst xs) := (Keep.new ht (st := st)) _ _ npD sX5
          have sT6 := TnAll.keep (TK.of_same (Same.new ht (.tup [.str nm, rv']))) sT5
          refine ⟨_, _, _, es ++ [(nm, rs')], rfl, pe7, by rw [upd_ne nDE]; exact sX6, TnAll.keep (TK.upd (by rw [pe6.xA]; trivial)) sT6, by rw [List.length_append, el]; rfl, ?_, okEff_snoc eok okr' cr'⟩
          rw [List.map_append, en]
          have hx : i < (ns.drop ((1 + ms).toNat + md.toNat)).length := by rw [List.length_drop]; omega
          rw [List.take_succ_eq_append_getElem hx, List.getElem_drop, hnm]
          rfl
      · rintro σ H3 ⟨v14, v16, ys, es, rfl, pe, sX, sT, el, en, eok⟩
        have yl : ys.length = es.length := by rw [pe.tA.length, List.length_map]
        refine ⟨_, rfl, _, rfl, _, rfl, pD, _, rfl, .inl ⟨SqL.of sX, fun t1 ht1 => ?_⟩⟩
        have pe1 := pe.new nE ht1 (o := .tup xs)
        refine ⟨_, rfl, pE, _, rfl, .inl ⟨SqL.of pe1.xA, fun t2 ht2 => ?_⟩⟩
        have pe2 := pe1.new nE ht2 (o := .tup ys)
        refine ⟨by show 4 ≤ sizeLine; decide, fun t3 ht3 => ?_⟩
        have pe3 := pe2.new nE ht3 (o := .tup [.ref aw, .ref p4, .ref t1, .ref t2])
        have tD : Tn K (upd (upd H3 t1 (.tup xs)) t2 (.tup ys)) (.ref t1) (pairsD ds) := Tn.keep (TK.of_same (Same.new ht2 _)) (Tn.new sT ht1)
        have tE : Tn K (upd (upd H3 t1 (.tup xs)) t2 (.tup ys)) (.ref t2) (pairsD es) := Tn.new pe1.tA ht2
        refine q _ ⟨ws, srcs, ds, es⟩ _ pe3.kp pe3.ok ⟨by show 2 ≤ ws.length; omega, by show ws.length ≤ 4; omega, by show 1 ≤ srcs.length; omega, by show srcs.length ≤ 4; omega, ddl, by show es.length ≤ 4; omega, wN, ?_, dok, eok⟩ ?_
        · have e : PP.names ⟨ws, srcs, ds, es⟩ = ns := by
            show srcs ++ ds.map (·.1) ++ es.map (·.1) = ns
            rw [dn, en, ← hse]
            have h1 := List.take_append_drop (1 + ms).toNat ns
            have h2 := List.take_append_drop md.toNat (ns.drop (1 + ms).toNat)
            rw [List.drop_drop] at h2
            have h3 : (ns.drop ((1 + ms).toNat + md.toNat)).take me.toNat = ns.drop ((1 + ms).toNat + md.toNat) := List.take_of_length_le (by rw [List.length_drop]; omega)
            rw [h3, List.append_assoc, h2, h1]
          rw [e]; exact nN
        · exact Tn.new (.cons (.tup pe2.wA (TnAll.strs ws)) (.cons (.tup pe2.sA (TnAll.strs srcs)) (.cons tD (TnAll.one tE)))) ht3
end
end K09
namespace K09
open PySem PySem.Spec PyProof.Rows L2 Td
/-! ### names and pairs that are right -/
def spIsName : Sp := fun vs H Q _ => ∃ z, vs = [.str z] ∧ isNm z = true ∧ ∀ H', Same H H' → Q (.bl true) H'
def spAreNames (K : PySem.W.Frag) : Sp := fun vs H Q _ => ∃ (a : Addr) (zs : List Str) (l m : Int), vs = [.ref a, .int l, .int m] ∧ SqT K H a (zs.map V.str) ∧ Names zs ∧ l ≤ zs.length ∧ (zs.length : Int) ≤ m ∧ zs.length ≤ 100 ∧
  ∀ H', Same H H' → Q (.bl true) H'
def spNamedPairs (K : PySem.W.Frag) : Sp := fun vs H Q _ => ∃ (v : V) (tk : Addr) (ps : List (Str × List Td.Row)) (ts : List Str) (m : Int), vs = [v, .int m, .ref tk] ∧ Tn K H v (pairsD ps) ∧ SqT K H tk (ts.map V.str) ∧
  Names (ts ++ ps.map (·.1)) ∧ (ps.length : Int) ≤ m ∧ ps.length ≤ 100 ∧ ts.length ≤ 100 ∧ ∀ H', Same H H' → Q (.bl true) H'
def spNamesOf (K : PySem.W.Frag) : Sp := fun vs H Q _ => ∃ (v : V) (ps : List (Str × List Td.Row)), vs = [v] ∧ Tn K H v (pairsD ps) ∧ ps.length ≤ 100 ∧
  ∀ (p : Addr) H', Same H H' → SqT K H' p (ps.map fun q => V.str q.1) → Q (.ref p) H'
theorem isNm_len {z : Str} (h : isNm z = true) : 1 ≤ z.length ∧ z.length ≤ 8 ∧ z.cps.toList.all lowc = true := by
  unfold isNm at h
  simp only [Bool.and_eq_true, decide_eq_true_eq] at h
  exact ⟨h.1.1, h.1.2, h.2⟩
theorem ty_tup {K : PySem.W.Frag} {H : Hp} {a : Addr} {xs : List V} (h : SqT K H a xs) : TyX K H (.ref a) (.type "tuple") := by
  rcases h with (h | ⟨o, h⟩) | ⟨o, its, n, h, c, _⟩
  · exact .base (.tup h)
  · exact .fTuple h
  · exact .kTuple h c
/-- the pairs' items -/
theorem pairs_at {K : PySem.W.Frag} {H : Hp} {v : V} {ps : List (Str × List Td.Row)} (h : Tn K H v (pairsD ps)) : ∃ (a : Addr) (xs : List V), v = .ref a ∧ SqT K H a xs ∧ xs.length = ps.length ∧
    ∀ (i : Nat) (x : V), xs[i]? = some x → ∃ (q : Str × List Td.Row) (b : Addr) (vr : V), ps[i]? = some q ∧ x = .ref b ∧ SqT K H b [.str q.1, vr] ∧ Tn K H vr (.tuple (rowsD q.2)) := by
  obtain ⟨a, xs, rfl, hS, hT⟩ := Tn.tup_inv h
  have hl := hT.length
  rw [List.length_map] at hl
  refine ⟨a, xs, rfl, hS, hl, fun i x hx => ?_⟩
  have hi : i < ps.length := by rw [← hl]; exact (List.getElem?_eq_some_iff.mp hx).1
  obtain ⟨d, h1, h2⟩ := TnAll.get hT hx
  rw [List.getElem?_map, List.getElem?_eq_getElem hi] at h1
  cases h1
  obtain ⟨b, ys, rfl, hS2, hT2⟩ := Tn.tup_inv h2
  cases hT2 with
  | cons c1 c2 =>
    cases c1
    cases c2 with
    | cons c3 c4 =>
      cases c4
      exact ⟨_, b, _, List.getElem?_eq_getElem hi, rfl, hS2, c3⟩
section
variable {P : Program} {w : World} {K : PySem.W.Frag} {mg : Str → Option Value} {base : Heap}
theorem ok_is_name (T : Tops w K mg) : FnOk P w K mg base CX0 1 T.a_is_name T.d_is_name ["value"] spIsName := by
  refine T.F_is_name.ok sc_is_name (fun vs H Q E h => ?_) (fun cdv A outer s H vs Q E hr h => ?_)
  · obtain ⟨z, rfl, _⟩ := h
    rfl
  obtain ⟨z, rfl, hz, q⟩ := h
  obtain ⟨z1, z8, zl⟩ := isNm_len hz
  refine ⟨_, (pss_cons (ps_if (PW.pt (pw_or (pt_not (pt_val (pe_callB call_isi rfl T.z_isinstance (by decide +kernel) (pa_cons (pv 0) (pa_cons (pe_bltn (v := .ty "str") rfl T.z_str (by decide +kernel) rfl) pa_nil))))) (pw_or1 (pt_not (pt_chain op_le op_le pe_int (pe_callB call_len rfl T.z_len PySem.boot_len (pa_cons (pv 0) pa_nil)) (pe_glob (v := .int 8) rfl T.c_LONGEST_NAME ⟨_, rfl⟩)))))) (pss_one (ps_ret pe_bl)) pss_nil)
    (pss_one (ps_ret (pe_callB (cr_all rfl) rfl T.z_all (by decide +kernel) (pa_cons (pe_lc (own := [("letter", 1)]) (g := gName 1) (tt := tYes) rfl sc_is_name.nd (pi_str (pv 0)) (blkOk_by (own := [("letter", 1)]) (N := N_is_name) (sc := defScope s_is_name) (by decide +kernel)) (fun _ _ _ _ _ => (pg_name (i := 1) sc_is_name.nd rfl (Or.inl rfl))) (fun _ _ _ _ _ => pts_nil) (fun _ _ _ _ _ => (pe_chain op_le_str op_le_str pe_str (pv 1) pe_str))) pa_nil))))), ?_⟩
  have zs : z.length ≤ sizeLine := Nat.le_of_lt (small1000 (by omega))
  refine ⟨_, rfl, .str z, .ty "str", .type "str", .type "str", true, rfl, .ty _, .base (.str z), kit_ty (by decide +kernel), true, rfl, iteF ?_⟩
  refine ⟨_, rfl, .str z, _, rfl, ⟨zs, rfl⟩, _, _, rfl, rfl, _, rfl, ?_⟩
  have e1 : decide ((1 : Int) ≤ (z.length : Int)) = true := decide_eq_true (by omega)
  refine if_true_of e1 ?_
  have e2 : decide ((z.length : Int) ≤ (8 : Int)) = true := decide_eq_true (by omega)
  refine ⟨_, _, rfl, rfl, _, rfl, ?_⟩
  refine if_false_of (by rw [e2]; rfl) ?_
  -- all([..])
  refine ⟨_, rfl, z, rfl, fun D hD => lc_str (fun i H' => ∃ bs : List Bool, Same H H' ∧ H' D = some (.lst (bs.map V.bl)) ∧ bs.length = i ∧ bs.all id = true) ⟨[], Same.new hD _, upd_same, rfl, rfl⟩ ?_ ?_⟩
  · rintro i c H' hc ⟨bs, hs, hb, hl, ha⟩
    have hlow : lowc c = true := by
      rw [List.all_eq_true] at zl
      exact zl c (by rw [Array.mem_toList_iff]; exact Array.mem_of_getElem? hc)
    unfold lowc at hlow
    simp only [Bool.and_eq_true, decide_eq_true_eq] at hlow
    have na : ("a" : Str).cps.toList = [97] := by decide +kernel
    have nz : ("z" : Str).cps.toList = [122] := by decide +kernel
    have k1 : (!decide ((⟨#[c]⟩ : Str).cps.toList < ("a" : Str).cps.toList)) = true := by
      rw [na]
      show (!decide ([c] < [97])) = true
      simp [List.cons_lt_cons_iff]
      omega
    have k2 : (!decide (("z" : Str).cps.toList < (⟨#[c]⟩ : Str).cps.toList)) = true := by
      rw [nz]
      show (!decide ([122] < [c])) = true
      simp [List.cons_lt_cons_iff]
      omega
    have hic : i < z.cps.size := (Array.getElem?_eq_some_iff.mp hc).1
    have hz8 : z.cps.size ≤ 8 := z8
    refine ⟨rfl, ?_⟩
    refine tYes_of ?_
    refine ⟨_, rfl, _, _, rfl, rfl, _, rfl, if_true_of k1 ?_⟩
    refine ⟨_, _, rfl, rfl, _, hb, small1000 (by rw [List.length_map]; omega), bs ++ [true], ?_, ?_, by rw [List.length_append, hl]; rfl, ?_⟩
    · intro b o e
      rw [upd_ne (ne_of_none e hD)]
      exact hs b o e
    · rw [upd_same, k2, List.map_append]; rfl
    · rw [List.all_append, ha]; rfl
  · rintro H' ⟨bs, hs, hb, hl, ha⟩
    refine ⟨D, bs, rfl, SqL.of hb, ?_⟩
    rw [ha]
    exact q H' hs
theorem ok_are_names (T : Tops w K mg) (G_is_name : FnOk P w K mg base CX0 1 T.a_is_name T.d_is_name ["value"] spIsName) :
    FnOk P w K mg base CX0 2 T.a_are_names T.d_are_names ["value", "least", "most"] (spAreNames K) := by
  refine T.F_are_names.ok sc_are_names (fun vs H Q E h => ?_) (fun cdv A outer s H vs Q E hr h => ?_)
  · obtain ⟨a, zs, l, m, rfl, _⟩ := h
    rfl
  obtain ⟨a, zs, l, m, rfl, hS, hN, hl, hm, h100, q⟩ := h
  refine ⟨_, (pss_cons (ps_if (PW.pt (pw_or (pt_not (pt_val (pe_callB call_isi rfl T.z_isinstance (by decide +kernel) (pa_cons (pv 0) (pa_cons (pe_bltn (v := .ty "tuple") rfl T.z_tuple (by decide +kernel) rfl) pa_nil))))) (pw_or1 (pt_not (pt_chain op_le op_le (pv 1) (pe_callB call_len rfl T.z_len PySem.boot_len (pa_cons (pv 0) pa_nil)) (pv 2)))))) (pss_one (ps_ret pe_bl)) pss_nil)
    (pss_one (ps_ret (pe_and (pe_callB (cr_all rfl) rfl T.z_all (by decide +kernel) (pa_cons (pe_lc (own := [("item", 3)]) (g := gName 3) (tt := tYes) rfl sc_are_names.nd (pi_tup (pv 0)) (blkOk_by (own := [("item", 3)]) (N := N_are_names) (sc := defScope s_are_names) (by decide +kernel)) (fun _ _ _ _ _ => (pg_name (i := 3) sc_are_names.nd rfl (Or.inl rfl))) (fun _ _ _ _ _ => pts_nil) (fun _ _ _ _ _ => (pe_call G_is_name (hr.mono (by omega)) rfl T.m_is_name T.F_is_name.kp T.b_is_name .nil pass0 (pa_cons (pv 3) pa_nil)))) pa_nil)) (pe_one (pe_cmpR op_eq (pe_lenSetT rfl rfl T.z_len rfl T.z_set (pv 0)) (pe_callB call_len rfl T.z_len PySem.boot_len (pa_cons (pv 0) pa_nil)) (nomark _))))))), ?_⟩
  refine ⟨_, rfl, .ref a, .ty "tuple", .type "tuple", .type "tuple", true, rfl, .ty _, ty_tup hS, kit_ty (by decide +kernel), true, rfl, iteF ?_⟩
  have e0 : (zs.map V.str).length = zs.length := List.length_map _
  refine ⟨_, rfl, _, rfl, .ref a, _, rfl, .inr ⟨_, hS, rfl⟩, _, _, rfl, rfl, _, rfl, ?_⟩
  have e1 : decide (l ≤ (((zs.map V.str).length : Nat) : Int)) = true := decide_eq_true (by omega)
  refine if_true_of e1 ?_
  have e2 : decide ((((zs.map V.str).length : Nat) : Int) ≤ m) = true := decide_eq_true (by omega)
  refine ⟨_, rfl, _, _, rfl, rfl, _, rfl, ?_⟩
  refine if_false_of (by rw [e2]; rfl) ?_
  refine ⟨_, rfl, a, rfl, ⟨_, hS⟩, fun D hD => lc_tup (K := K) (a := a) (xs := zs.map V.str) (fun i H' => ∃ bs : List Bool, Same H H' ∧ H' D = some (.lst (bs.map V.bl)) ∧ bs.length = i ∧ bs.all id = true)
    ⟨[], Same.new hD _, upd_same, rfl, rfl⟩ (fun i H' _ ⟨_, hs, _⟩ => SqT.same hs hS) ?_ ?_⟩
  · rintro i x H' hx ⟨bs, hs, hb, hl', ha⟩
    rw [List.getElem?_map] at hx
    obtain ⟨z, hz, rfl⟩ := Option.map_eq_some_iff.mp hx
    have hi : i < zs.length := (List.getElem?_eq_some_iff.mp hz).1
    refine ⟨rfl, ?_⟩
    refine tYes_of ?_
    refine ⟨_, rfl, z, rfl, hN.good z (List.mem_of_getElem? hz), fun H4 s4 => ⟨_, s4 _ _ hb, small1000 (by rw [List.length_map]; omega), bs ++ [true], ?_, by rw [upd_same, List.map_append]; rfl, by rw [List.length_append, hl']; rfl, by rw [List.all_append, ha]; rfl⟩⟩
    intro b o e
    rw [upd_ne (ne_of_none e hD)]
    exact s4 _ _ (hs b o e)
  · rintro H' ⟨bs, hs, hb, hl', ha⟩
    have hS' := SqT.same hs hS
    refine ⟨D, bs, rfl, SqL.of hb, _, rfl, ?_⟩
    refine if_true_of ha ?_
    refine ⟨_, rfl, a, zs, rfl, hS', by omega, _, rfl, .ref a, _, rfl, .inr ⟨_, hS', rfl⟩, rfl, ?_⟩
    have e3 : TdSet.dcnt zs zs.length = zs.length := TdSet.dcnt_nodup (Nat.le_refl _) (by rw [List.take_length]; exact hN.nd)
    have e4 : decide (V.int (TdSet.dcnt zs zs.length : Nat) = V.int (((zs.map V.str).length : Nat) : Int)) = true := by rw [e3, e0]; exact decide_eq_true rfl
    rw [e4]
    exact q H' hs
theorem ok_named_pairs (T : Tops w K mg) (G_is_name : FnOk P w K mg base CX0 1 T.a_is_name T.d_is_name ["value"] spIsName) :
    FnOk P w K mg base CX0 2 T.a_are_named_pairs T.d_are_named_pairs ["value", "most", "taken"] (spNamedPairs K) := by
  refine T.F_are_named_pairs.ok sc_are_named_pairs (fun vs H Q E h => ?_) (fun cdv A outer s H vs Q E hr h => ?_)
  · obtain ⟨v, tk, ps, ts, m, rfl, _⟩ := h
    rfl
  obtain ⟨v, tk, ps, ts, m, rfl, hT, hS, hN, hm, h100, t100, q⟩ := h
  obtain ⟨a, xs, rfl, hA, hl, hx⟩ := pairs_at hT
  refine ⟨_, (pss_cons (ps_if (PW.pt (pw_or (pt_not (pt_val (pe_callB call_isi rfl T.z_isinstance (by decide +kernel) (pa_cons (pv 0) (pa_cons (pe_bltn (v := .ty "tuple") rfl T.z_tuple (by decide +kernel) rfl) pa_nil))))) (pw_or1 (pt_cmpR op_gt (pe_callB call_len rfl T.z_len PySem.boot_len (pa_cons (pv 0) pa_nil)) (pv 1) (nomark _))))) (pss_one (ps_ret pe_bl)) pss_nil)
    (pss_cons (ps_set (i := 3) sc_are_named_pairs.nd rfl (Or.inl rfl) (pe_callTy call_list_of rfl T.z_list (by decide +kernel) (pa_cons (pv 2) pa_nil)))
    (pss_cons (ps_for PassesOwn.never rfl (pi_tup (pv 0)) (pg_name (i := 4) sc_are_named_pairs.nd rfl (Or.inl rfl)) (pss_cons (ps_if (PW.pt (pw_or (pt_not (pt_val (pe_callB call_isi rfl T.z_isinstance (by decide +kernel) (pa_cons (pv 4) (pa_cons (pe_bltn (v := .ty "tuple") rfl T.z_tuple (by decide +kernel) rfl) pa_nil))))) (pw_or1 (pt_cmpR op_ne (pe_callB call_len rfl T.z_len PySem.boot_len (pa_cons (pv 4) pa_nil)) pe_int (nomark _))))) (pss_one (ps_ret pe_bl)) pss_nil)
    (pss_cons (ps_if (PW.pt (pw_or (pt_not (pt_val (pe_call G_is_name (hr.mono (by omega)) rfl T.m_is_name T.F_is_name.kp T.b_is_name .nil pass0 (pa_cons (pe_ix ix_tup (pv 4) pe_int (fun _ _ => rfl)) pa_nil)))) (pw_or1 (pt_cmpR op_in_seq (pe_ix ix_tup (pv 4) pe_int (fun _ _ => rfl)) (pv 3) (by rfl))))) (pss_one (ps_ret pe_bl)) pss_nil)
    (pss_one (ps_expr (pe_bm PySem.F.plainAttrs_list PySem.F.slot_list_append PySem.F.type_list_append mt_append (pv 3) (pa_cons (pe_ix ix_tup (pv 4) pe_int (fun _ _ => rfl)) pa_nil)))))))
    (pss_one (ps_ret pe_bl))))), ?_⟩
  refine ⟨_, rfl, .ref a, .ty "tuple", .type "tuple", .type "tuple", true, rfl, .ty _, ty_tup hA, kit_ty (by decide +kernel), true, rfl, iteF ?_⟩
  refine ⟨_, rfl, .ref a, _, rfl, .inr ⟨_, hA, rfl⟩, _, rfl, _, _, rfl, rfl, _, rfl, ?_⟩
  have e1 : decide (m < ((xs.length : Nat) : Int)) = false := decide_eq_false (by omega)
  refine if_false_of e1 ?_
  refine ⟨_, rfl, tk, _, rfl, .inr hS, fun l hl0 => ?_⟩
  refine ⟨_, rfl, a, rfl, ⟨_, SqT.same (Same.new hl0 _) hA⟩, for_tup (K := K) (a := a) (xs := xs) (fun i σ H' => ∃ v4 : Option V, σ = [some (.ref a), some (.int m), some (.ref tk), some (.ref l), v4] ∧ Same H H' ∧ H' l = some (.lst ((ts ++ (ps.take i).map (·.1)).map V.str)))
    ⟨none, rfl, Same.new hl0 _, by simpa using upd_same⟩ (fun i σ H' _ ⟨_, _, hs, _⟩ => SqT.same hs hA) ?_ ?_⟩
  · rintro i x σ H' hi ⟨v4, rfl, hs, hL⟩
    obtain ⟨qq, b, vr, hq, rfl, hB, hR⟩ := hx i x hi
    have hB' := SqT.same hs hB
    have hips : i < ps.length := (List.getElem?_eq_some_iff.mp hq).1
    refine ⟨_, rfl, .ref b, .ty "tuple", .type "tuple", .type "tuple", true, rfl, .ty _, ty_tup hB', kit_ty (by decide +kernel), true, rfl, iteF ?_⟩
    refine ⟨_, rfl, .ref b, _, rfl, .inr ⟨_, hB', rfl⟩, rfl, _, rfl, ?_⟩
    refine if_false_of (by show (!decide (V.int ((2 : Nat) : Int) = V.int 2)) = false; decide +kernel) ?_
    have hmem : qq.1 ∈ ps.map (·.1) := List.mem_map.mpr ⟨qq, List.mem_of_getElem? hq, rfl⟩
    refine ⟨_, rfl, b, _, 0, _, rfl, rfl, hB', rfl, qq.1, rfl, hN.good _ (List.mem_append_right _ hmem), fun H3 s3 => ⟨true, rfl, iteF ?_⟩⟩
    have hB3 := SqT.same s3 hB'
    have hL3 := s3 _ _ hL
    refine ⟨_, rfl, b, _, 0, _, rfl, rfl, hB3, rfl, _, rfl, l, _, rfl, .inl (SqL.of hL3), rfl, L2.flat_strs _, _, rfl, ?_⟩
    have hnot : qq.1 ∉ ts ++ (ps.take i).map (·.1) := by
      have e : ts ++ ps.map (·.1) = (ts ++ (ps.take i).map (·.1)) ++ (ps.drop i).map (·.1) := by
        rw [List.append_assoc, ← List.map_append, List.take_append_drop]
      have nd := hN.nd
      rw [e] at nd
      intro hin
      refine (List.nodup_append.mp nd).2.2 _ hin qq.1 ?_ rfl
      refine List.mem_map.mpr ⟨qq, ?_, rfl⟩
      have : (ps.drop i)[0]? = some qq := by rw [List.getElem?_drop]; exact hq
      exact List.mem_of_getElem? this
    refine if_false_of (by show (inV _ _) = false; rw [inV_strs]; exact decide_eq_false hnot) ?_
    refine ⟨_, rfl, .inl ⟨rfl, _, SqL.of hL3⟩, _, rfl, b, _, 0, _, rfl, rfl, hB3, rfl, l, _, _, rfl, rfl, hL3, small1000 ?_, ?_⟩
    · rw [List.length_map, List.length_append, List.length_map, List.length_take]; omega
    · refine ⟨_, rfl, fun b o e => ?_, ?_⟩
      · rw [upd_ne (ne_of_none e hl0)]
        exact s3 _ _ (hs b o e)
      · rw [upd_same, take_more hq]
        simp
  · rintro σ H' ⟨v4, rfl, hs, hL⟩
    exact q H' hs
theorem ok_names_of (T : Tops w K mg) : FnOk P w K mg base CX0 1 T.a_names_of T.d_names_of ["pairs"] (spNamesOf K) := by
  refine T.F_names_of.ok sc_names_of (fun vs H Q E h => ?_) (fun cdv A outer s H vs Q E hr h => ?_)
  · obtain ⟨v, ps, rfl, _⟩ := h
    rfl
  obtain ⟨v, ps, rfl, hT, h100, q⟩ := h
  obtain ⟨a, xs, rfl, hA, hl, hx⟩ := pairs_at hT
  refine ⟨_, (pss_one (ps_ret (pe_callTy call_tuple_of rfl T.z_tuple (by decide +kernel) (pa_cons (pe_lc (own := [("name", 1), ("_", 2)]) (g := gTup K 2 (gCons (gName 1) (gCons (gName 2) gNil))) (tt := tYes) rfl sc_names_of.nd (pi_tup (pv 0)) (blkOk_by (own := [("name", 1), ("_", 2)]) (N := N_names_of) (sc := defScope s_names_of) (by decide +kernel)) (fun _ _ _ _ _ => (pg_tup rfl (pgs_cons (pg_name (i := 1) sc_names_of.nd rfl (Or.inl rfl)) (pgs_cons (pg_name (i := 2) sc_names_of.nd rfl (Or.inl rfl)) pgs_nil)))) (fun _ _ _ _ _ => pts_nil) (fun _ _ _ _ _ => (pv 1))) pa_nil)))), ?_⟩
  refine ⟨_, rfl, a, rfl, ⟨_, hA⟩, fun D hD => lc_tup (K := K) (a := a) (xs := xs) (fun i H' => Same H H' ∧ H' D = some (.lst ((ps.take i).map fun q => V.str q.1)))
    ⟨Same.new hD _, by simpa using upd_same⟩ (fun i H' _ ⟨hs, _⟩ => SqT.same hs hA) ?_ ?_⟩
  · rintro i x H' hi ⟨hs, hb⟩
    obtain ⟨qq, b, vr, hq, rfl, hB, hR⟩ := hx i x hi
    have hB' := SqT.same hs hB
    have hips : i < ps.length := (List.getElem?_eq_some_iff.mp hq).1
    refine ⟨b, _, rfl, hB', rfl, _, _, rfl, _, _, rfl, rfl, rfl, ?_⟩
    refine tYes_of ?_
    refine ⟨_, rfl, _, hb, small1000 (by rw [List.length_map, List.length_take]; omega), fun c o e => ?_, ?_⟩
    · rw [upd_ne (ne_of_none e hD)]
      exact hs c o e
    · rw [upd_same, take_more hq, List.map_append]; rfl
  · rintro H' ⟨hs, hb⟩
    rw [hl, List.take_length] at hb
    refine ⟨D, _, rfl, .inl ⟨SqL.of hb, fun p hp => q p _ (hs.trans (Same.new hp _)) (SqT.of upd_same)⟩⟩
end
end K09
namespace K09
open PySem PySem.Spec PyProof.Rows L2 Td
/-! ### the rows of a body that is right -/
def kdS (eff : Bool) : Str := if eff then "effects" else "derived"
def scF (kd : Str) (aw as ar : Addr) : List (Str × V) := [("kind", .str kd), ("words", .ref aw), ("sources", .ref as), ("readable", .ref ar)]
theorem scF_put (kd : Str) (aw as ar : Addr) : putF "readable" (.ref ar) (putF "sources" (.ref as) (putF "words" (.ref aw) (putF "kind" (.str kd) []))) = scF kd aw as ar := by kernel_rfl
theorem scF_kind (kd : Str) (aw as ar : Addr) : (scF kd aw as ar).lookup ("kind" : Str) = some (.str kd) := by kernel_rfl
theorem scF_words (kd : Str) (aw as ar : Addr) : (scF kd aw as ar).lookup ("words" : Str) = some (.ref aw) := by kernel_rfl
theorem scF_sources (kd : Str) (aw as ar : Addr) : (scF kd aw as ar).lookup ("sources" : Str) = some (.ref as) := by kernel_rfl
theorem scF_readable (kd : Str) (aw as ar : Addr) : (scF kd aw as ar).lookup ("readable" : Str) = some (.ref ar) := by kernel_rfl
structure ScopeAt (K : PySem.W.Frag) (H : Hp) (C sa : Addr) (S : Sc) : Prop where
  ex : ∃ (dx aw as ar : Addr), H sa = some (.ins C dx (scF (kdS S.eff) aw as ar)) ∧ SqT K H aw (S.words.map V.str) ∧ SqT K H as (S.sources.map V.str) ∧ SqT K H ar (S.readable.map V.str)
theorem ScopeAt.same {K : PySem.W.Frag} {H H' : Hp} {C sa : Addr} {S : Sc} (h : ScopeAt K H C sa S) (s : Same H H') : ScopeAt K H' C sa S := by
  obtain ⟨dx, aw, as, ar, e, h1, h2, h3⟩ := h.ex
  exact ⟨dx, aw, as, ar, s _ _ e, SqT.same s h1, SqT.same s h2, SqT.same s h3⟩
def spScope (C : Addr) : Sp := fun vs H Q _ => ∃ (x dx aw as ar : Addr) (kd : Str), vs = [.ref x, .str kd, .ref aw, .ref as, .ref ar] ∧ H x = some (.ins C dx []) ∧ Q .non (upd H x (.ins C dx (scF kd aw as ar)))
def spRead (K : PySem.W.Frag) (C : Addr) : Sp := fun vs H Q _ => ∃ (v : V) (sa : Addr) (S : Sc) (pk : Bool) (c s : Str), vs = [v, .ref sa] ∧ Dp K H v (rowD (.rd pk c s)) ∧ ScopeAt K H C sa S ∧ c ∈ S.readable ∧ isNm s = true ∧ ∀ H', Same H H' → Q (.bl true) H'
def spPut (K : PySem.W.Frag) (C : Addr) : Sp := fun vs H Q _ => ∃ (v : V) (sa : Addr) (S : Sc) (s u : Str), vs = [v, .ref sa] ∧ Dp K H v (rowD (.put s u)) ∧ ScopeAt K H C sa S ∧ u ∈ S.words ∧ isNm s = true ∧ ∀ H', Same H H' → Q (.bl true) H'
def spIf (K : PySem.W.Frag) (C : Addr) : Sp := fun vs H Q _ => ∃ (v : V) (sa : Addr) (S : Sc) (s u : Str) (y n : List Td.Row), vs = [v, .ref sa] ∧ Dp K H v (rowD (.ite s u y n)) ∧ ScopeAt K H C sa S ∧ u ∈ S.words ∧ isNm s = true ∧ ∀ H', Same H H' → Q (.bl true) H'
def spSlot (K : PySem.W.Frag) (C : Addr) : Sp := fun vs H Q _ => ∃ (v : V) (sa : Addr) (S : Sc) (g : Bool) (s : Str), vs = [v, .ref sa] ∧ Dp K H v (rowD (if g then .give s else .say s)) ∧ ScopeAt K H C sa S ∧ isNm s = true ∧ ∀ H', Same H H' → Q (.bl true) H'
def spWrite (K : PySem.W.Frag) (C : Addr) : Sp := fun vs H Q _ => ∃ (v : V) (sa : Addr) (S : Sc) (c s : Str), vs = [v, .ref sa] ∧ Dp K H v (rowD (.wr c s)) ∧ ScopeAt K H C sa S ∧ c ∈ S.sources ∧ isNm s = true ∧ ∀ H', Same H H' → Q (.bl true) H'
theorem in_of {z : Str} {ws : List Str} (h : z ∈ ws) : inV (.str z) (ws.map V.str) = true := by rw [inV_strs]; exact decide_eq_true h
section
variable {P : Program} {w : World} {K : PySem.W.Frag} {mg : Str → Option Value} {base : Heap}
theorem ok_scope (T : Tops w K mg) : FnOk P w K mg base CX0 1 T.a_Scope_init T.d_Scope_init ["self", "kind", "words", "sources", "readable"] (spScope T.c_Scope) := by
  refine T.F_Scope_init.ok sc_Scope_init (fun vs H Q E h => ?_) (fun cdv A outer s H vs Q E hr h => ?_)
  · obtain ⟨x, dx, aw, as, ar, kd, rfl, _⟩ := h
    rfl
  obtain ⟨x, dx, aw, as, ar, kd, rfl, hx, q⟩ := h
  refine ⟨_, (pss_cons (ps_fld (pv 0) (pv 1) rfl)
    (pss_cons (ps_fld (pv 0) (pv 2) rfl)
    (pss_cons (ps_fld (pv 0) (pv 3) rfl)
    (pss_one (ps_fld (pv 0) (pv 4) rfl))))), ?_⟩
  refine ⟨_, rfl, _, rfl, x, T.c_Scope, dx, [], rfl, hx, T.l_Scope, T.n_Scope_kind, by show 0 < 1000; decide, ?_⟩
  refine ⟨_, rfl, _, rfl, x, T.c_Scope, dx, _, rfl, upd_same, T.l_Scope, T.n_Scope_words, by show 1 < 1000; decide, ?_⟩
  rw [upd_upd]
  refine ⟨_, rfl, _, rfl, x, T.c_Scope, dx, _, rfl, upd_same, T.l_Scope, T.n_Scope_sources, Nat.lt_of_le_of_lt (m := 2) (Nat.le_of_eq (by kernel_rfl)) (by decide), ?_⟩
  rw [upd_upd]
  refine ⟨_, rfl, _, rfl, x, T.c_Scope, dx, _, rfl, upd_same, T.l_Scope, T.n_Scope_readable, Nat.lt_of_le_of_lt (m := 3) (Nat.le_of_eq (by kernel_rfl)) (by decide), ?_⟩
  rw [upd_upd, scF_put]
  exact q
theorem ok_read (T : Tops w K mg) (G_is_name : FnOk P w K mg base CX0 1 T.a_is_name T.d_is_name ["value"] spIsName) : FnOk P w K mg base CX0 2 T.a_is_read_row T.d_is_read_row ["row", "scope"] (spRead K T.c_Scope) := by
  refine T.F_is_read_row.ok sc_is_read_row (fun vs H Q E h => ?_) (fun cdv A outer s H vs Q E hr h => ?_)
  · obtain ⟨v, sa, S, pk, c, s, rfl, _⟩ := h
    rfl
  obtain ⟨v, sa, S, pk, c, sl, rfl, hD, hSc, hc, hs, q⟩ := h
  obtain ⟨a, rfl, hS⟩ := rd_at hD
  obtain ⟨dx, aw, as, ar, e, h1, h2, h3⟩ := hSc.ex
  refine ⟨_, (pss_one (ps_ret (pe_and (pe_cmpR op_eq (pe_callB call_len rfl T.z_len PySem.boot_len (pa_cons (pv 0) pa_nil)) pe_int (nomark _)) (pe_and (pe_cmpR op_in_seq (pe_ix ix_tup (pv 0) pe_int (fun _ _ => rfl)) (pe_fld (pv 1) rfl) (by rfl)) (pe_one (pe_call G_is_name (hr.mono (by omega)) rfl T.m_is_name T.F_is_name.kp T.b_is_name .nil pass0 (pa_cons (pe_ix ix_tup (pv 0) pe_int (fun _ _ => rfl)) pa_nil))))))), ?_⟩
  refine ⟨_, rfl, .ref a, _, rfl, .inr ⟨_, hS, rfl⟩, rfl, _, rfl, if_true_of (by show decide (V.int ((3 : Nat) : Int) = V.int 3) = true; decide +kernel) ?_⟩
  refine ⟨_, rfl, a, _, 1, _, rfl, rfl, hS, rfl, _, rfl, sa, _, dx, _, _, rfl, e, T.l_Scope, T.n_Scope_readable, scF_readable .., ar, _, rfl, .inr h3, rfl, L2.flat_strs _, _, rfl, if_true_of (in_of hc) ?_⟩
  exact ⟨_, rfl, a, _, 2, _, rfl, rfl, hS, rfl, sl, rfl, hs, q⟩
theorem ok_put (T : Tops w K mg) (G_is_name : FnOk P w K mg base CX0 1 T.a_is_name T.d_is_name ["value"] spIsName) : FnOk P w K mg base CX0 2 T.a_is_put_row T.d_is_put_row ["row", "scope"] (spPut K T.c_Scope) := by
  refine T.F_is_put_row.ok sc_is_put_row (fun vs H Q E h => ?_) (fun cdv A outer s H vs Q E hr h => ?_)
  · obtain ⟨v, sa, S, s, u, rfl, _⟩ := h
    rfl
  obtain ⟨v, sa, S, sl, u, rfl, hD, hSc, hc, hs, q⟩ := h
  obtain ⟨a, rfl, hS⟩ := put_at hD
  refine ⟨_, (pss_one (ps_ret (pe_and (pe_cmpR op_eq (pe_callB call_len rfl T.z_len PySem.boot_len (pa_cons (pv 0) pa_nil)) pe_int (nomark _)) (pe_and (pe_call G_is_name (hr.mono (by omega)) rfl T.m_is_name T.F_is_name.kp T.b_is_name .nil pass0 (pa_cons (pe_ix ix_tup (pv 0) pe_int (fun _ _ => rfl)) pa_nil)) (pe_one (pe_cmpR op_in_seq (pe_ix ix_tup (pv 0) pe_int (fun _ _ => rfl)) (pe_fld (pv 1) rfl) (by rfl))))))), ?_⟩
  refine ⟨_, rfl, .ref a, _, rfl, .inr ⟨_, hS, rfl⟩, rfl, _, rfl, if_true_of (by show decide (V.int ((3 : Nat) : Int) = V.int 3) = true; decide +kernel) ?_⟩
  refine ⟨_, rfl, a, _, 1, _, rfl, rfl, hS, rfl, sl, rfl, hs, fun H1 s1 => ⟨_, rfl, iteT ?_⟩⟩
  obtain ⟨dx, aw, as, ar, e, h1, h2, h3⟩ := (hSc.same s1).ex
  refine ⟨_, rfl, a, _, 2, _, rfl, rfl, SqT.same s1 hS, rfl, _, rfl, sa, _, dx, _, _, rfl, e, T.l_Scope, T.n_Scope_words, scF_words .., aw, _, rfl, .inr h1, rfl, L2.flat_strs _, ?_⟩
  show Q (.bl (inV _ _)) H1
  rw [in_of hc]
  exact q H1 s1
theorem ok_slot (T : Tops w K mg) (G_is_name : FnOk P w K mg base CX0 1 T.a_is_name T.d_is_name ["value"] spIsName) : FnOk P w K mg base CX0 2 T.a_is_slot_row T.d_is_slot_row ["row", "scope"] (spSlot K T.c_Scope) := by
  refine T.F_is_slot_row.ok sc_is_slot_row (fun vs H Q E h => ?_) (fun cdv A outer s H vs Q E hr h => ?_)
  · obtain ⟨v, sa, S, g, s, rfl, _⟩ := h
    rfl
  obtain ⟨v, sa, S, g, sl, rfl, hD, hSc, hs, q⟩ := h
  obtain ⟨a, tg, rfl, hS⟩ : ∃ (a : Addr) (tg : Str), v = .ref a ∧ SqT K H a [.str tg, .str sl] := by
    cases g with
    | true => obtain ⟨a, e, h⟩ := give_at hD; exact ⟨a, _, e, h⟩
    | false => obtain ⟨a, e, h⟩ := say_at hD; exact ⟨a, _, e, h⟩
  refine ⟨_, (pss_one (ps_ret (pe_and (pe_cmpR op_eq (pe_callB call_len rfl T.z_len PySem.boot_len (pa_cons (pv 0) pa_nil)) pe_int (nomark _)) (pe_one (pe_call G_is_name (hr.mono (by omega)) rfl T.m_is_name T.F_is_name.kp T.b_is_name .nil pass0 (pa_cons (pe_ix ix_tup (pv 0) pe_int (fun _ _ => rfl)) pa_nil)))))), ?_⟩
  refine ⟨_, rfl, .ref a, _, rfl, .inr ⟨_, hS, rfl⟩, rfl, _, rfl, if_true_of (by show decide (V.int ((2 : Nat) : Int) = V.int 2) = true; decide +kernel) ?_⟩
  exact ⟨_, rfl, a, _, 1, _, rfl, rfl, hS, rfl, sl, rfl, hs, q⟩
theorem ok_write (T : Tops w K mg) (G_is_name : FnOk P w K mg base CX0 1 T.a_is_name T.d_is_name ["value"] spIsName) : FnOk P w K mg base CX0 2 T.a_is_write_row T.d_is_write_row ["row", "scope"] (spWrite K T.c_Scope) := by
  refine T.F_is_write_row.ok sc_is_write_row (fun vs H Q E h => ?_) (fun cdv A outer s H vs Q E hr h => ?_)
  · obtain ⟨v, sa, S, c, s, rfl, _⟩ := h
    rfl
  obtain ⟨v, sa, S, c, sl, rfl, hD, hSc, hc, hs, q⟩ := h
  obtain ⟨a, rfl, hS⟩ := wr_at hD
  obtain ⟨dx, aw, as, ar, e, h1, h2, h3⟩ := hSc.ex
  refine ⟨_, (pss_one (ps_ret (pe_and (pe_cmpR op_eq (pe_callB call_len rfl T.z_len PySem.boot_len (pa_cons (pv 0) pa_nil)) pe_int (nomark _)) (pe_and (pe_cmpR op_in_seq (pe_ix ix_tup (pv 0) pe_int (fun _ _ => rfl)) (pe_fld (pv 1) rfl) (by rfl)) (pe_one (pe_call G_is_name (hr.mono (by omega)) rfl T.m_is_name T.F_is_name.kp T.b_is_name .nil pass0 (pa_cons (pe_ix ix_tup (pv 0) pe_int (fun _ _ => rfl)) pa_nil))))))), ?_⟩
  refine ⟨_, rfl, .ref a, _, rfl, .inr ⟨_, hS, rfl⟩, rfl, _, rfl, if_true_of (by show decide (V.int ((3 : Nat) : Int) = V.int 3) = true; decide +kernel) ?_⟩
  refine ⟨_, rfl, a, _, 1, _, rfl, rfl, hS, rfl, _, rfl, sa, _, dx, _, _, rfl, e, T.l_Scope, T.n_Scope_sources, scF_sources .., as, _, rfl, .inr h2, rfl, L2.flat_strs _, _, rfl, if_true_of (in_of hc) ?_⟩
  exact ⟨_, rfl, a, _, 2, _, rfl, rfl, hS, rfl, sl, rfl, hs, q⟩
theorem ok_if (T : Tops w K mg) (G_is_name : FnOk P w K mg base CX0 1 T.a_is_name T.d_is_name ["value"] spIsName) : FnOk P w K mg base CX0 2 T.a_is_if_row T.d_is_if_row ["row", "scope"] (spIf K T.c_Scope) := by
  refine T.F_is_if_row.ok sc_is_if_row (fun vs H Q E h => ?_) (fun cdv A outer s H vs Q E hr h => ?_)
  · obtain ⟨v, sa, S, s, u, y, n, rfl, _⟩ := h
    rfl
  obtain ⟨v, sa, S, sl, u, y, n, rfl, hD, hSc, hc, hs, q⟩ := h
  obtain ⟨a, vy, vn, rfl, hS, hy, hn⟩ := ite_at hD
  refine ⟨_, (pss_cons (ps_if (PW.pt (pw_or (pt_cmpR op_ne (pe_callB call_len rfl T.z_len PySem.boot_len (pa_cons (pv 0) pa_nil)) pe_int (nomark _)) (pw_or (pt_not (pt_val (pe_call G_is_name (hr.mono (by omega)) rfl T.m_is_name T.F_is_name.kp T.b_is_name .nil pass0 (pa_cons (pe_ix ix_tup (pv 0) pe_int (fun _ _ => rfl)) pa_nil)))) (pw_or1 (pt_cmpR op_notIn_seq (pe_ix ix_tup (pv 0) pe_int (fun _ _ => rfl)) (pe_fld (pv 1) rfl) (by rfl)))))) (pss_one (ps_ret pe_bl)) pss_nil)
    (pss_one (ps_ret (pe_and (pe_callB call_isi rfl T.z_isinstance (by decide +kernel) (pa_cons (pe_ix ix_tup (pv 0) pe_int (fun _ _ => rfl)) (pa_cons (pe_bltn (v := .ty "tuple") rfl T.z_tuple (by decide +kernel) rfl) pa_nil))) (pe_one (pe_callB call_isi rfl T.z_isinstance (by decide +kernel) (pa_cons (pe_ix ix_tup (pv 0) pe_int (fun _ _ => rfl)) (pa_cons (pe_bltn (v := .ty "tuple") rfl T.z_tuple (by decide +kernel) rfl) pa_nil)))))))), ?_⟩
  refine ⟨_, rfl, .ref a, _, rfl, .inr ⟨_, hS, rfl⟩, rfl, _, rfl, if_false_of (by show (!decide (V.int ((5 : Nat) : Int) = V.int 5)) = false; decide +kernel) ?_⟩
  refine ⟨_, rfl, a, _, 1, _, rfl, rfl, hS, rfl, sl, rfl, hs, fun H1 s1 => ⟨_, rfl, iteF ?_⟩⟩
  obtain ⟨dx, aw, as, ar, e, h1, h2, h3⟩ := (hSc.same s1).ex
  have hS1 := SqT.same s1 hS
  refine ⟨_, rfl, a, _, 2, _, rfl, rfl, hS1, rfl, _, rfl, sa, _, dx, _, _, rfl, e, T.l_Scope, T.n_Scope_words, scF_words .., aw, _, rfl, .inr h1, rfl, L2.flat_strs _, _, rfl, if_false_of (by show (!inV _ _) = false; rw [in_of hc]; rfl) ?_⟩
  obtain ⟨ay, xy, rfl, hy1, _⟩ := Dp.tup_inv (Dp.same s1 hy)
  obtain ⟨an, xn, rfl, hn1, _⟩ := Dp.tup_inv (Dp.same s1 hn)
  refine ⟨_, rfl, a, _, 3, _, rfl, rfl, hS1, rfl, .ref ay, .ty "tuple", .type "tuple", .type "tuple", true, rfl, .ty _, ty_tup hy1, kit_ty (by decide +kernel), _, rfl, iteT ?_⟩
  exact ⟨_, rfl, a, _, 4, _, rfl, rfl, hS1, rfl, .ref an, .ty "tuple", .type "tuple", .type "tuple", true, rfl, .ty _, ty_tup hn1, kit_ty (by decide +kernel), q H1 s1⟩
/-- which function judges a row -/
def fitF (T : Tops w K mg) : Td.Row → Addr
  | .rd .. => T.a_is_read_row
  | .put .. => T.a_is_put_row
  | .give .. => T.a_is_slot_row
  | .say .. => T.a_is_slot_row
  | .wr .. => T.a_is_write_row
  | .ite .. => T.a_is_if_row
def spCheckOf (T : Tops w K mg) : Sp := fun vs H Q _ => ∃ (S : Sc) (dep : Nat) (r : Td.Row), vs = [.str (kdS S.eff), .str (rowTag r)] ∧ okR S dep r ∧ Q (.ref (fitF T r)) H
theorem ok_check_of (T : Tops w K mg) : FnOk P w K mg base CX0 1 T.a_check_of T.d_check_of ["kind", "form"] (spCheckOf T) := by
  refine T.F_check_of.ok sc_check_of (fun vs H Q E h => ?_) (fun cdv A outer s H vs Q E hr h => ?_)
  · obtain ⟨S, dep, r, rfl, _⟩ := h
    rfl
  obtain ⟨S, dep, r, rfl, hok, q⟩ := h
  refine ⟨_, (pss_cons (ps_if (pt_cmpR op_eq (pv 0) pe_str (nomark _)) (pss_one (ps_ret (pe_kget (pe_glob (v := .ref T.a_DERIVED_FORMS) rfl T.c_DERIVED_FORMS rfl) (pv 1) ⟨rfl, rfl, rfl, rfl⟩))) pss_nil)
    (pss_one (ps_ret (pe_kget (pe_glob (v := .ref T.a_EFFECT_FORMS) rfl T.c_EFFECT_FORMS rfl) (pv 1) ⟨rfl, rfl, rfl, rfl⟩)))), ?_⟩
  refine ⟨_, rfl, rfl, _, rfl, ?_⟩
  obtain ⟨eff, ws, so, rd⟩ := S
  cases eff with
  | false =>
    refine if_true_of (by show decide (V.str "derived" = V.str "derived") = true; decide +kernel) ?_
    refine ⟨T.a_DERIVED_FORMS, rfl, T.w_DERIVED_FORMS, _, rfl, _, rfl, .inl ⟨_, ?_, q⟩⟩
    cases r with
    | rd pk c s =>
      unfold okR at hok
      cases pk with
      | false => exact T.w_DERIVED_FORMS_read
      | true => exact nomatch hok.1 rfl
    | put s u => exact T.w_DERIVED_FORMS_put
    | give s => exact T.w_DERIVED_FORMS_give
    | say s => unfold okR at hok; exact nomatch hok.1
    | wr c s => unfold okR at hok; exact nomatch hok.1
    | ite s u y n => exact T.w_DERIVED_FORMS_if
  | true =>
    refine if_false_of (by show decide (V.str "effects" = V.str "derived") = false; decide +kernel) ?_
    refine ⟨T.a_EFFECT_FORMS, rfl, T.w_EFFECT_FORMS, _, rfl, _, rfl, .inl ⟨_, ?_, q⟩⟩
    cases r with
    | rd pk c s =>
      cases pk with
      | false => exact T.w_EFFECT_FORMS_read
      | true => exact T.w_EFFECT_FORMS_peek
    | put s u => exact T.w_EFFECT_FORMS_put
    | give s => unfold okR at hok; exact nomatch hok.1
    | say s => exact T.w_EFFECT_FORMS_say
    | wr c s => exact T.w_EFFECT_FORMS_write
    | ite s u y n => exact T.w_EFFECT_FORMS_if
end
end K09
namespace K09
open PySem PySem.Spec PyProof.Rows L2 Td
def fitS (K : PySem.W.Frag) {w : World} {mg : Str → Option Value} (T : Tops w K mg) : Addr → Sp → Prop := fun f sp =>
  (f = T.a_is_read_row ∧ sp = spRead K T.c_Scope) ∨ (f = T.a_is_put_row ∧ sp = spPut K T.c_Scope) ∨ (f = T.a_is_slot_row ∧ sp = spSlot K T.c_Scope) ∨ (f = T.a_is_write_row ∧ sp = spWrite K T.c_Scope) ∨ (f = T.a_is_if_row ∧ sp = spIf K T.c_Scope)
def spValid (K : PySem.W.Frag) (C : Addr) : Sp := fun vs H Q _ => ∃ (v : V) (sa : Addr) (S : Sc) (dep : Nat) (r : Td.Row), vs = [v, .ref sa, .int (dep : Nat)] ∧ Dp K H v (rowD r) ∧ ScopeAt K H C sa S ∧ okR S dep r ∧ ∀ H', Same H H' → Q (.bl true) H'
def spFirst (K : PySem.W.Frag) (C : Addr) (n : Nat) : Sp := fun vs H Q _ => ∃ (v : V) (sa b : Addr) (bs : List V) (S : Sc) (dep : Nat) (rs : List Td.Row), vs = [v, .ref sa, .ref b, .int (dep : Nat)] ∧ Dp K H v (.tuple (rowsD rs)) ∧ ScopeAt K H C sa S ∧
  SqT K H b bs ∧ bs.length ≤ 2 + 2 * dep ∧ bs ≠ [] ∧ okRs S dep rs ∧ dep ≤ 4 ∧ 5 ≤ dep + n ∧ ∀ H', Same H H' → Q .non H'
def spPaths (K : PySem.W.Frag) (n : Nat) : Sp := fun vs H Q _ => ∃ (v : V) (b : Addr) (bs : List V) (S : Sc) (dep : Nat) (rs : List Td.Row), vs = [v, .ref b] ∧ Dp K H v (.tuple (rowsD rs)) ∧
  SqT K H b bs ∧ bs.length ≤ 2 + 2 * dep ∧ bs ≠ [] ∧ okRs S dep rs ∧ cnts rs ≤ 100 ∧ dep ≤ 4 ∧ 5 ≤ dep + n ∧ ∀ (p : Addr) (xs : List V) H', Same H H' → H p = none → H' p = some (.lst xs) → xs.length = cnts rs → Q (.ref p) H'
def spBody (K : PySem.W.Frag) (C : Addr) : Sp := fun vs H Q _ => ∃ (v : V) (sa : Addr) (S : Sc) (rs : List Td.Row) (i : Int), vs = [v, .ref sa, .int i] ∧ Dp K H v (.tuple (rowsD rs)) ∧ ScopeAt K H C sa S ∧ okRs S 1 rs ∧ cnts rs ≤ 16 ∧
  ∀ H', Same H H' → Q .non H'
section
variable {P : Program} {w : World} {K : PySem.W.Frag} {mg : Str → Option Value} {base : Heap}
theorem fit_held (T : Tops w K mg)
    (G1 : FnOk P w K mg base CX0 2 T.a_is_read_row T.d_is_read_row ["row", "scope"] (spRead K T.c_Scope))
    (G2 : FnOk P w K mg base CX0 2 T.a_is_put_row T.d_is_put_row ["row", "scope"] (spPut K T.c_Scope))
    (G3 : FnOk P w K mg base CX0 2 T.a_is_slot_row T.d_is_slot_row ["row", "scope"] (spSlot K T.c_Scope))
    (G4 : FnOk P w K mg base CX0 2 T.a_is_write_row T.d_is_write_row ["row", "scope"] (spWrite K T.c_Scope))
    (G5 : FnOk P w K mg base CX0 2 T.a_is_if_row T.d_is_if_row ["row", "scope"] (spIf K T.c_Scope)) : ∀ f sp, fitS K T f sp → Held P w K mg base 2 f sp := by
  rintro f sp (⟨rfl, rfl⟩ | ⟨rfl, rfl⟩ | ⟨rfl, rfl⟩ | ⟨rfl, rfl⟩ | ⟨rfl, rfl⟩)
  · exact ⟨_, _, G1, T.F_is_read_row.kp, T.b_is_read_row⟩
  · exact ⟨_, _, G2, T.F_is_put_row.kp, T.b_is_put_row⟩
  · exact ⟨_, _, G3, T.F_is_slot_row.kp, T.b_is_slot_row⟩
  · exact ⟨_, _, G4, T.F_is_write_row.kp, T.b_is_write_row⟩
  · exact ⟨_, _, G5, T.F_is_if_row.kp, T.b_is_if_row⟩
theorem ok_valid (T : Tops w K mg) (hA : ∀ f sp, fitS K T f sp → Held P w K mg base 2 f sp)
    (G_check_of : FnOk P w K mg base CX0 1 T.a_check_of T.d_check_of ["kind", "form"] (spCheckOf T)) :
    FnOk P w K mg base CX0 3 T.a_is_valid_row T.d_is_valid_row ["row", "scope", "depth"] (spValid K T.c_Scope) := by
  refine T.F_is_valid_row.ok sc_is_valid_row (fun vs H Q E h => ?_) (fun cdv A outer s H vs Q E hr h => ?_)
  · obtain ⟨v, sa, S, dep, r, rfl, _⟩ := h
    rfl
  obtain ⟨v, sa, S, dep, r, rfl, hD, hSc, ok, q⟩ := h
  obtain ⟨a, xs, rfl, hS, h0⟩ := row_at hD
  obtain ⟨dx, aw, as, ar, e, h1, h2, h3⟩ := hSc.ex
  refine ⟨_, (pss_cons (ps_if (PW.pt (pw_or (pt_not (pt_val (pe_callB call_isi rfl T.z_isinstance (by decide +kernel) (pa_cons (pv 0) (pa_cons (pe_bltn (v := .ty "tuple") rfl T.z_tuple (by decide +kernel) rfl) pa_nil))))) (pw_or (pt_cmpR op_eq (pe_callB call_len rfl T.z_len PySem.boot_len (pa_cons (pv 0) pa_nil)) pe_int (nomark _)) (pw_or1 (pt_not (pt_val (pe_callB call_isi rfl T.z_isinstance (by decide +kernel) (pa_cons (pe_ix ix_tup (pv 0) pe_int (fun _ _ => rfl)) (pa_cons (pe_bltn (v := .ty "str") rfl T.z_str (by decide +kernel) rfl) pa_nil))))))))) (pss_one (ps_ret pe_bl)) pss_nil)
    (C8.pss_cut (ps_if (PW.pt (pw_and (pt_cmpR op_eq (pe_ix ix_tup (pv 0) pe_int (fun _ _ => rfl)) pe_str (nomark _)) (pw_and1 (pt_cmpR op_gt (pv 2) (pe_glob (v := .int 3) rfl T.c_DEEPEST_IF ⟨_, rfl⟩) (nomark _))))) (pss_one (ps_ret pe_bl)) pss_nil)
    (pss_cons (ps_set (i := 3) sc_is_valid_row.nd rfl (Or.inl rfl) (pe_call G_check_of (hr.mono (by omega)) rfl T.m_check_of T.F_check_of.kp T.b_check_of .nil pass0 (pa_cons (pe_fld (pv 1) rfl) (pa_cons (pe_ix ix_tup (pv 0) pe_int (fun _ _ => rfl)) pa_nil))))
    (pss_one (ps_ret (pe_and (pe_cmpR op_notN (pv 3) pe_non (nomark _)) (pe_one (pe_callR (i := 3) (S := fitS K T) hA (hr.mono (by omega)) rfl (Or.inl rfl) (pa_cons (pv 0) (pa_cons (pv 1) pa_nil)))))))))), ?_⟩
  have hx : 0 < xs.length := (List.getElem?_eq_some_iff.mp h0).1
  have a0 : atI xs 0 = some (.str (rowTag r)) := atI_nat (j := 0) h0
  refine ⟨_, rfl, .ref a, .ty "tuple", .type "tuple", .type "tuple", true, rfl, .ty _, ty_tup hS, kit_ty (by decide +kernel), true, rfl, iteF ?_⟩
  refine ⟨_, rfl, .ref a, _, rfl, .inr ⟨_, hS, rfl⟩, rfl, _, rfl, if_false_of (decide_eq_false (fun h => by injection h; omega)) ?_⟩
  refine ⟨_, rfl, a, _, 0, _, rfl, rfl, hS, a0, .str (rowTag r), .ty "str", .type "str", .type "str", true, rfl, .ty _, .base (.str _), kit_ty (by decide +kernel), true, rfl, if_false_of rfl ?_⟩
  refine ⟨fun σ' H' => H' = H ∧ σ' = [some (.ref a), some (.ref sa), some (.int (dep : Nat)), none], ?_, ?_⟩
  · refine ⟨_, rfl, a, _, 0, _, rfl, rfl, hS, a0, rfl, _, rfl, ?_⟩
    cases hi : isIte r with
    | false => exact if_false_of ((tag_if r).trans hi) (iteF ⟨rfl, rfl⟩)
    | true =>
      refine if_true_of ((tag_if r).trans hi) ?_
      have h3' : dep ≤ 3 := by
        cases r with
        | ite s u y n => unfold okR at ok; exact ok.1
        | _ => cases hi
      refine ⟨_, rfl, _, _, rfl, rfl, _, rfl, if_false_of (decide_eq_false (by omega)) ⟨rfl, rfl⟩⟩
  rintro σ' H' ⟨rfl, rfl⟩
  refine ⟨_, rfl, sa, _, dx, _, _, rfl, e, T.l_Scope, T.n_Scope_kind, scF_kind .., _, rfl, a, _, 0, _, rfl, rfl, hS, a0, S, dep, r, rfl, ok, ?_⟩
  refine ⟨_, rfl, rfl, _, rfl, if_true_of (by rfl) ?_⟩
  cases r with
  | rd pk c s => unfold okR at ok; exact ⟨_, _, rfl, .inl ⟨rfl, rfl⟩, _, rfl, _, rfl, _, sa, S, pk, c, s, rfl, hD, hSc, ok.2.1, ok.2.2, q⟩
  | put s u => unfold okR at ok; exact ⟨_, _, rfl, .inr (.inl ⟨rfl, rfl⟩), _, rfl, _, rfl, _, sa, S, s, u, rfl, hD, hSc, ok.2, ok.1, q⟩
  | give s => unfold okR at ok; exact ⟨_, _, rfl, .inr (.inr (.inl ⟨rfl, rfl⟩)), _, rfl, _, rfl, _, sa, S, true, s, rfl, hD, hSc, ok.2, q⟩
  | say s => unfold okR at ok; exact ⟨_, _, rfl, .inr (.inr (.inl ⟨rfl, rfl⟩)), _, rfl, _, rfl, _, sa, S, false, s, rfl, hD, hSc, ok.2, q⟩
  | wr c s => unfold okR at ok; exact ⟨_, _, rfl, .inr (.inr (.inr (.inl ⟨rfl, rfl⟩))), _, rfl, _, rfl, _, sa, S, c, s, rfl, hD, hSc, ok.2.1, ok.2.2, q⟩
  | ite s u y n => unfold okR at ok; exact ⟨_, _, rfl, .inr (.inr (.inr (.inr ⟨rfl, rfl⟩))), _, rfl, _, rfl, _, sa, S, s, u, y, n, rfl, hD, hSc, ok.2.2.1, ok.2.1, q⟩
theorem ok_first1 (T : Tops w K mg) {n : Nat} (hn3 : 3 ≤ n) (G_is_valid_row : FnOk P w K mg base CX0 3 T.a_is_valid_row T.d_is_valid_row ["row", "scope", "depth"] (spValid K T.c_Scope))
    (G_first_wrong_path : FnOk P w K mg base CX0 n T.a_first_wrong_path T.d_first_wrong_path ["rows", "scope", "base", "depth"] (spFirst K T.c_Scope (n - 3))) :
    FnOk P w K mg base CX0 (n + 1) T.a_first_wrong_path T.d_first_wrong_path ["rows", "scope", "base", "depth"] (spFirst K T.c_Scope (n - 3 + 1)) := by
  refine T.F_first_wrong_path.ok sc_first_wrong_path (fun vs H Q E h => ?_) (fun cdv A outer s H vs Q E hr h => ?_)
  · obtain ⟨v, sa, b, bs, S, dep, rs, rfl, _⟩ := h
    rfl
  obtain ⟨v, sa, b, bs, S, dep, rs, rfl, hD, hSc, hB, hbl, hb0, ok, hdep, hn, q⟩ := h
  obtain ⟨a, xs, rfl, hS, hl, hx⟩ := rows_at hD
  refine ⟨_, (pss_cons (ps_for PassesOwn.never rfl (pi_enumT rfl T.z_enumerate (pa_cons (pv 0) pa_nil)) (pg_tup rfl (pgs_cons (pg_name (i := 4) sc_first_wrong_path.nd rfl (Or.inl rfl)) (pgs_cons (pg_name (i := 5) sc_first_wrong_path.nd rfl (Or.inl rfl)) pgs_nil))) (pss_cons (ps_set (i := 6) sc_first_wrong_path.nd rfl (Or.inl rfl) (pe_op op_catA (pv 2) (pe_tup (pa_cons (pv 4) pa_nil))))
    (pss_cons (ps_if (pt_not (pt_val (pe_call G_is_valid_row (hr.mono (by omega)) rfl T.m_is_valid_row T.F_is_valid_row.kp T.b_is_valid_row .nil pass0 (pa_cons (pv 5) (pa_cons (pv 1) (pa_cons (pv 3) pa_nil)))))) (pss_one (ps_ret (pv 6))) pss_nil)
    (pss_one (ps_if (pt_cmpR op_eq (pe_ix ix_tup (pv 5) pe_int (fun _ _ => rfl)) pe_str (nomark _)) (pss_one (ps_for PassesOwn.never rfl (pi_tup (pe_tup (pa_cons pe_int (pa_cons pe_int pa_nil)))) (pg_name (i := 7) sc_first_wrong_path.nd rfl (Or.inl rfl)) (pss_cons (ps_set (i := 8) sc_first_wrong_path.nd rfl (Or.inl rfl) (pe_call G_first_wrong_path (hr.mono (by omega)) rfl T.m_first_wrong_path T.F_first_wrong_path.kp T.b_first_wrong_path .nil pass0 (pa_cons (pe_ix ix_tup (pv 5) (pe_op op_add pe_int (pv 7)) (fun _ _ => rfl)) (pa_cons (pv 1) (pa_cons (pe_op op_catA (pv 6) (pe_tup (pa_cons (pv 7) pa_nil))) (pa_cons (pe_op op_add (pv 3) pe_int) pa_nil))))))
    (pss_one (ps_if (pt_cmpR op_notN (pv 8) pe_non (nomark _)) (pss_one (ps_ret (pv 8))) pss_nil))))) pss_nil)))))
    (pss_one (ps_ret pe_non))), ?_⟩
  refine ⟨_, rfl, a, _, rfl, hS, for_enumT (K := K) (a := a) (xs := xs) (fun i σ H' => ∃ v4 v5 v6 v7 v8 : Option V, σ = [some (.ref a), some (.ref sa), some (.ref b), some (.int (dep : Nat)), v4, v5, v6, v7, v8] ∧ Same H H')
    ⟨none, none, none, none, none, rfl, Same.refl _⟩ (fun i σ H' _ ⟨_, _, _, _, _, _, hs⟩ => SqT.same hs hS) ?_ ?_⟩
  · rintro i x σ H1 t hi ⟨v4, v5, v6, v7, v8, rfl, hs⟩ ht
    obtain ⟨r, hr2, hDr⟩ := hx i x hi
    have okr := okRs_get ok hr2
    have hs1 : Same H (upd H1 t (.tup [.int (i : Nat), x])) := hs.trans (Same.new ht _)
    refine ⟨t, _, rfl, SqT.of upd_same, rfl, _, _, rfl, _, _, rfl, rfl, ?_⟩
    generalize upd H1 t (.tup [.int (i : Nat), x]) = H2 at hs1
    -- path = base + (place,)
    refine ⟨_, rfl, _, rfl, by show 1 ≤ sizeLine; decide, fun t1 ht1 => ?_⟩
    have hs2 := hs1.trans (Same.new ht1 (.tup [.int (i : Nat)]))
    refine ⟨b, t1, bs, _, rfl, rfl, SqT.same hs2 hB, SqT.of upd_same, Nat.le_of_lt (small1000 (by show bs.length + 1 ≤ 1000; omega)), fun e => absurd e hb0, fun _ e => (by cases e), fun _ _ pa hpa => ?_⟩
    have hs3 := hs2.trans (Same.new hpa (.tup (bs ++ [.int (i : Nat)])))
    have hP : SqT K (upd (upd H2 t1 (.tup [.int (i : Nat)])) pa (.tup (bs ++ [.int (i : Nat)]))) pa (bs ++ [.int (i : Nat)]) := SqT.of upd_same
    show tSeq _ _ _ _ (upd (upd H2 t1 (.tup [.int (i : Nat)])) pa (.tup (bs ++ [.int (i : Nat)])))
    generalize upd (upd H2 t1 (.tup [.int (i : Nat)])) pa (.tup (bs ++ [.int (i : Nat)])) = H3 at hs3 hP
    -- is_valid_row
    refine ⟨_, rfl, _, rfl, _, rfl, _, sa, S, dep, r, rfl, Dp.same hs3 hDr, hSc.same hs3, okr, fun H4 s4 => ⟨_, rfl, if_false_of rfl ?_⟩⟩
    have hs4 := hs3.trans s4
    cases hi2 : isIte r with
    | false =>
      obtain ⟨ar, ys, rfl, hSr, h0⟩ := row_at (Dp.same hs4 hDr)
      refine ⟨_, rfl, ar, _, 0, _, rfl, rfl, hSr, atI_nat (j := 0) h0, rfl, _, rfl, ?_⟩
      exact if_false_of ((tag_if r).trans hi2) ⟨_, _, _, v7, v8, rfl, hs4⟩
    | true =>
      cases r with
      | ite sl u y n' =>
        obtain ⟨ar, vy, vn, rfl, hSr, hy, hn'⟩ := ite_at (Dp.same hs4 hDr)
        unfold okR at okr
        refine ⟨_, rfl, ar, _, 0, _, rfl, rfl, hSr, rfl, rfl, _, rfl, ?_⟩
        refine if_true_of (by decide +kernel) ?_
        refine ⟨by show 2 ≤ sizeLine; decide, fun tb htb => ?_⟩
        have hs5 := Same.new htb (.tup [.int 0, .int 1])
        refine ⟨tb, rfl, ⟨_, SqT.of upd_same⟩, for_tup (K := K) (a := tb) (xs := [.int 0, .int 1]) (fun j σ H' => ∃ v7 v8 : Option V, σ = [some (.ref a), some (.ref sa), some (.ref b), some (.int (dep : Nat)), some (.int (i : Nat)), some (.ref ar), some (.ref pa), v7, v8] ∧ Same (upd H4 tb (.tup [.int 0, .int 1])) H')
          ⟨v7, v8, rfl, Same.refl _⟩ (fun j σ H' _ ⟨_, _, _, h⟩ => SqT.of (h _ _ upd_same)) ?_ ?_⟩
        · rintro j x σ H5 hj ⟨v7, v8, rfl, h5⟩
          have h45 := hs5.trans h5
          have h05 := hs4.trans h45
          obtain ⟨k, vk, rk, rfl, hk, hDk, okk⟩ : ∃ (k : Nat) (vk : V) (rk : List Td.Row), x = .int (k : Nat) ∧ atI [V.str "if", .str sl, .str u, vy, vn] (3 + (k : Int)) = some vk ∧ Dp K H4 vk (.tuple (rowsD rk)) ∧ okRs S (dep + 1) rk := by
            match j, hj with
            | 0, hj => cases hj; exact ⟨0, vy, y, rfl, rfl, hy, okr.2.2.2.1⟩
            | 1, hj => cases hj; exact ⟨1, vn, n', rfl, rfl, hn', okr.2.2.2.2⟩
            | j + 2, hj => simp at hj
          refine ⟨_, rfl, _, rfl, _, _, rfl, rfl, ar, _, _, _, rfl, rfl, SqT.same h45 hSr, hk, _, rfl, _, rfl, _, rfl, by show 1 ≤ sizeLine; decide, fun t2 ht2 => ?_⟩
          have s52 := Same.new ht2 (.tup [.int (k : Nat)])
          have hP5 := SqT.same ((s4.trans h45).trans s52) hP
          refine ⟨pa, t2, _, _, rfl, rfl, hP5, SqT.of upd_same, Nat.le_of_lt (small1000 (by rw [List.length_append]; show bs.length + 1 + 1 ≤ 1000; omega)), fun e => (by simp at e), fun _ e => (by cases e), fun _ _ t3 ht3 => ?_⟩
          have s53 := s52.trans (Same.new ht3 (.tup (bs ++ [.int (i : Nat)] ++ [.int (k : Nat)])))
          refine ⟨_, rfl, _, _, rfl, rfl, vk, sa, t3, _, S, dep + 1, rk, rfl, Dp.same (h45.trans s53) hDk, hSc.same (h05.trans s53), SqT.of upd_same, by simp; omega, by simp, okk, by omega, by omega, fun H6 s6 => ?_⟩
          refine ⟨_, rfl, rfl, _, rfl, if_false_of rfl ⟨_, _, rfl, h5.trans (s53.trans s6)⟩⟩
        · rintro σ H5 ⟨v7, v8, rfl, h5⟩
          exact ⟨_, _, _, v7, v8, rfl, hs4.trans (hs5.trans h5)⟩
      | _ => cases hi2
  · rintro σ H1 ⟨v4, v5, v6, v7, v8, rfl, hs⟩
    exact q H1 hs
theorem ok_first (T : Tops w K mg) (G1 : FnOk P w K mg base CX0 3 T.a_is_valid_row T.d_is_valid_row ["row", "scope", "depth"] (spValid K T.c_Scope)) :
    ∀ k, FnOk P w K mg base CX0 (k + 3) T.a_first_wrong_path T.d_first_wrong_path ["rows", "scope", "base", "depth"] (spFirst K T.c_Scope k)
  | 0 => by
    have no : ∀ vs H Q E, ¬ spFirst K T.c_Scope 0 vs H Q E := fun vs H Q E h => by
      obtain ⟨_, _, _, _, _, dep, _, _, _, _, _, _, _, _, h1, h2, _⟩ := h
      omega
    exact ⟨fun vs H Q E h => absurd h (no vs H Q E), fun A outer s H args us vs Q E _ _ _ _ h => absurd h (no vs H Q E)⟩
  | k + 1 => ok_first1 T (n := k + 3) (by omega) G1 (ok_first T G1 k)
end
end K09
namespace K09
open PySem PySem.Spec PyProof.Rows L2 Td
theorem Same.own {H H' : Hp} {p : Addr} {o : HO} (k : Same H H') (h : H p = none) : Same H (upd H' p o) := fun b u e => by
  rw [upd_ne (ne_of_none e h)]; exact k b u e
theorem cnts_get {rs : List Td.Row} {i : Nat} {r : Td.Row} (h : rs[i]? = some r) : cnt r + cnts (rs.take i) ≤ cnts rs := by
  have e : cnts rs = cnts (rs.take (i + 1)) + cnts (rs.drop (i + 1)) := by rw [← cnts_append, List.take_append_drop]
  rw [e, cnts_take h]; omega
section
variable {P : Program} {w : World} {K : PySem.W.Frag} {mg : Str → Option Value} {base : Heap}
theorem ok_paths1 (T : Tops w K mg) {n : Nat} (G_paths_of_rows : FnOk P w K mg base CX0 n T.a_paths_of_rows T.d_paths_of_rows ["rows", "base"] (spPaths K n)) :
    FnOk P w K mg base CX0 (n + 1) T.a_paths_of_rows T.d_paths_of_rows ["rows", "base"] (spPaths K (n + 1)) := by
  refine T.F_paths_of_rows.ok sc_paths_of_rows (fun vs H Q E h => ?_) (fun cdv A outer s H vs Q E hr h => ?_)
  · obtain ⟨v, b, bs, S, dep, rs, rfl, _⟩ := h
    rfl
  obtain ⟨v, b, bs, S, dep, rs, rfl, hD, hB, hbl, hb0, ok, hcn, hdep, hn, q⟩ := h
  obtain ⟨a, xs, rfl, hS, hl, hx⟩ := rows_at hD
  refine ⟨_, (pss_cons (ps_set (i := 2) sc_paths_of_rows.nd rfl (Or.inl rfl) (pe_lst pa_nil))
    (pss_cons (ps_for PassesOwn.never rfl (pi_enumT rfl T.z_enumerate (pa_cons (pv 0) pa_nil)) (pg_tup rfl (pgs_cons (pg_name (i := 3) sc_paths_of_rows.nd rfl (Or.inl rfl)) (pgs_cons (pg_name (i := 4) sc_paths_of_rows.nd rfl (Or.inl rfl)) pgs_nil))) (pss_cons (ps_set (i := 5) sc_paths_of_rows.nd rfl (Or.inl rfl) (pe_op op_catA (pv 1) (pe_tup (pa_cons (pv 3) pa_nil))))
    (pss_cons (ps_expr (pe_bm PySem.F.plainAttrs_list PySem.F.slot_list_append PySem.F.type_list_append mt_append (pv 2) (pa_cons (pv 5) pa_nil)))
    (pss_one (ps_if (pt_cmpR op_eq (pe_ix ix_tup (pv 4) pe_int (fun _ _ => rfl)) pe_str (nomark _)) (pss_one (ps_for PassesOwn.never rfl (pi_tup (pe_tup (pa_cons pe_int (pa_cons pe_int pa_nil)))) (pg_name (i := 6) sc_paths_of_rows.nd rfl (Or.inl rfl)) (pss_one (ps_expr (pe_bm PySem.F.plainAttrs_list PySem.F.slot_list_extend PySem.F.type_list_extend mt_extend (pv 2) (pa_cons (pe_call G_paths_of_rows (hr.mono (by omega)) rfl T.m_paths_of_rows T.F_paths_of_rows.kp T.b_paths_of_rows .nil pass0 (pa_cons (pe_ix ix_tup (pv 4) (pe_op op_add pe_int (pv 6)) (fun _ _ => rfl)) (pa_cons (pe_op op_catA (pv 5) (pe_tup (pa_cons (pv 6) pa_nil))) pa_nil))) pa_nil)))))) pss_nil)))))
    (pss_one (ps_ret (pv 2))))), ?_⟩
  refine ⟨by show 0 ≤ sizeLine; decide, fun p hp => ?_⟩
  refine ⟨_, rfl, a, _, rfl, SqT.same (Same.new hp _) hS, for_enumT (K := K) (a := a) (xs := xs) (fun i σ H' => ∃ (v4 v5 v6 v7 : Option V) (ys : List V), σ = [some (.ref a), some (.ref b), some (.ref p), v4, v5, v6, v7] ∧ Same H H' ∧ H' p = some (.lst ys) ∧ ys.length = cnts (rs.take i))
    ⟨none, none, none, none, [], rfl, Same.new hp _, upd_same, rfl⟩ (fun i σ H' _ ⟨_, _, _, _, _, _, hs, _⟩ => SqT.same hs hS) ?_ ?_⟩
  · rintro i x σ H1 t hi ⟨v4, v5, v6, v7, ys, rfl, hs, hy, hyl⟩ ht
    obtain ⟨r, hr2, hDr⟩ := hx i x hi
    have okr := okRs_get ok hr2
    have hcr := cnts_get hr2
    have hs1 : Same H (upd H1 t (.tup [.int (i : Nat), x])) := hs.trans (Same.new ht _)
    have hy1 : upd H1 t (.tup [.int (i : Nat), x]) p = some (.lst ys) := Same.new ht _ _ _ hy
    refine ⟨t, _, rfl, SqT.of upd_same, rfl, _, _, rfl, _, _, rfl, rfl, ?_⟩
    generalize upd H1 t (.tup [.int (i : Nat), x]) = H2 at hs1 hy1
    refine ⟨_, rfl, _, rfl, by show 1 ≤ sizeLine; decide, fun t1 ht1 => ?_⟩
    have hs2 := hs1.trans (Same.new ht1 (.tup [.int (i : Nat)]))
    have hy2 := Same.new ht1 (.tup [.int (i : Nat)]) _ _ hy1
    refine ⟨b, t1, bs, _, rfl, rfl, SqT.same hs2 hB, SqT.of upd_same, Nat.le_of_lt (small1000 (by show bs.length + 1 ≤ 1000; omega)), fun e => absurd e hb0, fun _ e => (by cases e), fun _ _ pa hpa => ?_⟩
    have hs3 := hs2.trans (Same.new hpa (.tup (bs ++ [.int (i : Nat)])))
    have hy3 := Same.new hpa (.tup (bs ++ [.int (i : Nat)])) _ _ hy2
    have hP : SqT K (upd (upd H2 t1 (.tup [.int (i : Nat)])) pa (.tup (bs ++ [.int (i : Nat)]))) pa (bs ++ [.int (i : Nat)]) := SqT.of upd_same
    show tSeq _ _ _ _ (upd (upd H2 t1 (.tup [.int (i : Nat)])) pa (.tup (bs ++ [.int (i : Nat)])))
    generalize upd (upd H2 t1 (.tup [.int (i : Nat)])) pa (.tup (bs ++ [.int (i : Nat)])) = H3 at hs3 hP hy3
    -- append
    have hyb : ys.length ≤ 100 := by omega
    refine ⟨_, rfl, .inl ⟨rfl, _, SqL.of hy3⟩, _, rfl, p, ys, _, rfl, rfl, hy3, small1000 (by omega), ?_⟩
    have hs4 : Same H (upd H3 p (.lst (ys ++ [.ref pa]))) := Same.own hs3 hp
    have hP4 : SqT K (upd H3 p (.lst (ys ++ [.ref pa]))) pa (bs ++ [.int (i : Nat)]) := SqT.tk (TK.upd (by rw [hy3]; trivial)) hP
    have hy4 : upd H3 p (.lst (ys ++ [.ref pa])) p = some (.lst (ys ++ [.ref pa])) := upd_same
    have hl4 : (ys ++ [V.ref pa]).length = cnts (rs.take i) + 1 := by rw [List.length_append, hyl]; rfl
    generalize upd H3 p (.lst (ys ++ [.ref pa])) = H4 at hs4 hP4 hy4
    generalize ys ++ [V.ref pa] = ys4 at hy4 hl4
    cases hi2 : isIte r with
    | false =>
      obtain ⟨ar, zs, rfl, hSr, h0⟩ := row_at (Dp.same hs4 hDr)
      refine ⟨_, rfl, ar, _, 0, _, rfl, rfl, hSr, atI_nat (j := 0) h0, rfl, _, rfl, ?_⟩
      exact if_false_of ((tag_if r).trans hi2) ⟨_, _, _, v7, ys4, rfl, hs4, hy4, by rw [cnts_take hr2, cnt_flat hi2, hl4]⟩
    | true =>
      cases r with
      | ite sl u y n' =>
        obtain ⟨ar, vy, vn, rfl, hSr, hyD, hnD⟩ := ite_at hDr
        unfold okR at okr
        have ecn : Td.cnt (Td.Row.ite sl u y n') = 1 + cnts y + cnts n' := by unfold Td.cnt; rfl
        refine ⟨_, rfl, ar, _, 0, _, rfl, rfl, SqT.same hs4 hSr, rfl, rfl, _, rfl, ?_⟩
        refine if_true_of (by decide +kernel) ?_
        refine ⟨by show 2 ≤ sizeLine; decide, fun tb htb => ?_⟩
        have hs5 := Same.new htb (.tup [.int 0, .int 1])
        have htbS : SqT K (upd H4 tb (.tup [.int 0, .int 1])) tb [.int 0, .int 1] := SqT.of upd_same
        have hP5 := SqT.same hs5 hP4
        have hy5 := hs5 _ _ hy4
        have hs05 := hs4.trans hs5
        generalize upd H4 tb (.tup [.int 0, .int 1]) = H5 at hs5 htbS hP5 hy5 hs05
        refine ⟨tb, rfl, ⟨_, htbS⟩, for_tup (K := K) (a := tb) (xs := [.int 0, .int 1]) (fun j σ H' => ∃ (v7 : Option V) (zs : List V), σ = [some (.ref a), some (.ref b), some (.ref p), some (.int (i : Nat)), some (.ref ar), some (.ref pa), v7] ∧ Same H H' ∧ TK H5 H' ∧ H' p = some (.lst zs) ∧ zs.length = cnts (rs.take i) + 1 + (if j = 0 then 0 else cnts y) + (if j = 2 then cnts n' else 0))
          ⟨v7, ys4, rfl, hs05, TK.refl _, hy5, by rw [hl4]; simp⟩ (fun j σ H' _ ⟨_, _, _, _, tk, _⟩ => SqT.tk tk htbS) ?_ ?_⟩
        · rintro j x σ H6 hj ⟨v7, zs, rfl, h06, tk, hy6, hl6⟩
          have D1 : Dp K H6 vy (.tuple (rowsD y)) := Dp.same h06 hyD
          have D2 : Dp K H6 vn (.tuple (rowsD n')) := Dp.same h06 hnD
          obtain ⟨k, vk, rk, rfl, hk, hDk, okk, hck, hle, hjk⟩ : ∃ (k : Nat) (vk : V) (rk : List Td.Row), x = .int (k : Nat) ∧ atI [V.str "if", .str sl, .str u, vy, vn] (3 + (k : Int)) = some vk ∧ Dp K H6 vk (.tuple (rowsD rk)) ∧ okRs S (dep + 1) rk ∧ cnts rk ≤ 100 ∧ zs.length + cnts rk ≤ 100 ∧
              zs.length + cnts rk = cnts (rs.take i) + 1 + (if j + 1 = 0 then 0 else cnts y) + (if j + 1 = 2 then cnts n' else 0) := by
            match j, hj with
            | 0, hj => cases hj; exact ⟨0, vy, y, rfl, rfl, D1, okr.2.2.2.1, by omega, by rw [hl6]; simp; omega, by rw [hl6]; simp⟩
            | 1, hj => cases hj; exact ⟨1, vn, n', rfl, rfl, D2, okr.2.2.2.2, by omega, by rw [hl6]; simp; omega, by rw [hl6]; simp⟩
            | j + 2, hj => simp at hj
          refine ⟨_, rfl, .inl ⟨rfl, _, SqL.of hy6⟩, ?_⟩
          refine ⟨_, rfl, _, rfl, _, _, rfl, rfl, ar, _, _, _, rfl, rfl, SqT.same h06 hSr, hk, _, rfl, _, rfl, by show 1 ≤ sizeLine; decide, fun t2 ht2 => ?_⟩
          have s62 := Same.new ht2 (.tup [.int (k : Nat)])
          have hP6 := SqT.same s62 (SqT.tk tk hP5)
          refine ⟨pa, t2, _, _, rfl, rfl, hP6, SqT.of upd_same, Nat.le_of_lt (small1000 (by rw [List.length_append]; show bs.length + 1 + 1 ≤ 1000; omega)), fun e => (by simp at e), fun _ e => (by cases e), fun _ _ t3 ht3 => ?_⟩
          have s63 := s62.trans (Same.new ht3 (.tup (bs ++ [.int (i : Nat)] ++ [.int (k : Nat)])))
          refine ⟨vk, t3, _, S, dep + 1, rk, rfl, Dp.same s63 hDk, SqT.of upd_same, by simp; omega, by simp, okk, hck, by omega, by omega, fun p2 ws H7 s7 hp2 hw hwl => ?_⟩
          have hy7 := s7 _ _ (s63 _ _ hy6)
          have hn2 : p ≠ p2 := ne_of_none (s63 _ _ hy6) hp2
          refine ⟨p, p2, zs, ws, rfl, rfl, hy7, hw, Nat.le_of_lt (small1000 (by omega)), ?_⟩
          refine ⟨_, _, rfl, Same.own ((h06.trans s63).trans s7) hp, ?_, upd_same, ?_⟩
          · exact (tk.trans (TK.of_same (s63.trans s7))).trans (TK.upd (by rw [hy7]; trivial))
          · rw [List.length_append, hwl]; exact hjk
        · rintro σ H6 ⟨v7, zs, rfl, h06, tk, hy6, hl6⟩
          refine ⟨_, _, _, v7, zs, rfl, h06, hy6, ?_⟩
          rw [hl6, cnts_take hr2, ecn]
          simp
          omega
      | _ => cases hi2
  · rintro σ H1 ⟨v4, v5, v6, v7, ys, rfl, hs, hy, hyl⟩
    rw [hl, List.take_length] at hyl
    exact ⟨_, rfl, q p ys H1 hs hp hy hyl⟩
theorem ok_paths (T : Tops w K mg) : ∀ k, FnOk P w K mg base CX0 k T.a_paths_of_rows T.d_paths_of_rows ["rows", "base"] (spPaths K k)
  | 0 => by
    have no : ∀ vs H Q E, ¬ spPaths K 0 vs H Q E := fun vs H Q E h => by
      obtain ⟨_, _, _, _, dep, _, _, _, _, _, _, _, _, h1, h2, _⟩ := h
      omega
    exact ⟨fun vs H Q E h => absurd h (no vs H Q E), fun A outer s H args us vs Q E _ _ _ _ h => absurd h (no vs H Q E)⟩
  | k + 1 => ok_paths1 T (ok_paths T k)
end
end K09
namespace K09
open PySem PySem.Spec PyProof.Rows L2 Td
theorem cat_all {K : PySem.W.Frag} {H : Hp} {a b : Addr} {xs ys : List V} {Q : V → Hp → Prop} (hA : SqT K H a xs) (hB : SqT K H b ys) (hl : xs.length + ys.length ≤ sizeLine)
    (k : ∀ (p : Addr) H', Same H H' → SqT K H' p (xs ++ ys) → Q (.ref p) H') : rCatA K (.ref a) (.ref b) H Q := by
  refine ⟨a, b, xs, ys, rfl, rfl, hA, hB, hl, fun e => ?_, fun _ e => ?_, fun _ _ p hp => ?_⟩
  · subst e; exact k b H (Same.refl _) hB
  · subst e; exact k a H (Same.refl _) (by rw [List.append_nil]; exact hA)
  · exact k p _ (Same.new hp _) (SqT.of upd_same)
theorem okDer_get {words sources : List Str} {most : Nat} : ∀ {ps : List (Str × List Td.Row)} {rd : List Str} {i : Nat} {q : Str × List Td.Row}, okDer words sources most rd ps → ps[i]? = some q →
    okRs ⟨false, words, sources, rd ++ (ps.take i).map (·.1)⟩ 1 q.2 ∧ cnts q.2 ≤ most
  | [], rd, i, q, _, h => by simp at h
  | x :: ps, rd, 0, q, h, e => by
    unfold okDer at h
    simp at e; subst e
    exact ⟨by simpa using h.1, h.2.1.1⟩
  | x :: ps, rd, i + 1, q, h, e => by
    unfold okDer at h
    have := okDer_get (i := i) (q := q) h.2.2 (by simpa using e)
    simpa using this
theorem okEff_get {words sources rd : List Str} {most : Nat} : ∀ {ps : List (Str × List Td.Row)} {i : Nat} {q : Str × List Td.Row}, okEff words sources rd most ps → ps[i]? = some q →
    okRs ⟨true, words, sources, rd⟩ 1 q.2 ∧ cnts q.2 ≤ most
  | [], i, q, _, h => by simp at h
  | x :: ps, 0, q, h, e => by
    unfold okEff at h
    simp at e; subst e
    exact ⟨h.1, h.2.1.1⟩
  | x :: ps, i + 1, q, h, e => by
    unfold okEff at h
    exact okEff_get (i := i) (q := q) h.2.2 (by simpa using e)
theorem okDer_lim {words sources : List Str} {most : Nat} : ∀ {ps : List (Str × List Td.Row)} {rd : List Str} {q : Str × List Td.Row}, okDer words sources most rd ps → q ∈ ps → Lim false most q.2
  | [], rd, q, _, h => by cases h
  | x :: ps, rd, q, h, e => by
    unfold okDer at h
    rcases List.mem_cons.mp e with rfl | e
    · exact h.2.1
    · exact okDer_lim h.2.2 e
theorem okEff_lim {words sources rd : List Str} {most : Nat} : ∀ {ps : List (Str × List Td.Row)} {q : Str × List Td.Row}, okEff words sources rd most ps → q ∈ ps → Lim true most q.2
  | [], q, _, h => by cases h
  | x :: ps, q, h, e => by
    unfold okEff at h
    rcases List.mem_cons.mp e with rfl | e
    · exact h.2.1
    · exact okEff_lim h.2.2 e
theorem scope_made {K : PySem.W.Frag} {C x dx aw as ar : Addr} {S : Sc} {H : Hp} (hx : H x = none) (hdx : H dx = none) (hne : dx ≠ x) (h1 : SqT K H aw (S.words.map V.str)) (h2 : SqT K H as (S.sources.map V.str)) (h3 : SqT K H ar (S.readable.map V.str)) :
    ∃ H3, upd (upd (upd H dx (.own x)) x (.ins C dx [])) x (.ins C dx (scF (kdS S.eff) aw as ar)) = H3 ∧ Same H H3 ∧ ScopeAt K H3 C x S := by
  have hs : Same H (upd (upd H dx (.own x)) x (.ins C dx (scF (kdS S.eff) aw as ar))) := (Same.new hdx _).trans (Same.new (by rw [upd_ne (Ne.symm hne)]; exact hx) _)
  exact ⟨_, by rw [upd_upd], hs, ⟨dx, aw, as, ar, upd_same, SqT.same hs h1, SqT.same hs h2, SqT.same hs h3⟩⟩
theorem Tn.same {K : PySem.W.Frag} {H H' : Hp} {v : V} {d : PyData} (s : Same H H') (h : Tn K H v d) : Tn K H' v d := Tn.keep (TK.of_same s) h
/-- what the parts' checks take -/
def spBodies (K : PySem.W.Frag) : Sp := fun vs H Q _ => ∃ (aw as : Addr) (vd ve : V) (p : PP) (m : Nat), vs = [.ref aw, .ref as, vd, ve] ∧ SqT K H aw (p.words.map V.str) ∧ SqT K H as (p.sources.map V.str) ∧ Tn K H vd (pairsD p.derived) ∧ Tn K H ve (pairsD p.effects) ∧
  p.Ok m ∧ m ≤ 16 ∧ ∀ H', Same H H' → Q .non H'
def progF (aw as : Addr) (vd ve : V) (dn en : Addr) : List (Str × V) := [("words", .ref aw), ("sources", .ref as), ("derived", vd), ("effects", ve), ("_derived_names", .ref dn), ("_effect_names", .ref en)]
theorem progF_put (aw as : Addr) (vd ve : V) (dn en : Addr) : putF "_effect_names" (.ref en) (putF "_derived_names" (.ref dn) (putF "effects" ve (putF "derived" vd (putF "sources" (.ref as) (putF "words" (.ref aw) []))))) = progF aw as vd ve dn en := by kernel_rfl
theorem progF_words (aw as : Addr) (vd ve : V) (dn en : Addr) : (progF aw as vd ve dn en).lookup ("words" : Str) = some (.ref aw) := by kernel_rfl
theorem progF_sources (aw as : Addr) (vd ve : V) (dn en : Addr) : (progF aw as vd ve dn en).lookup ("sources" : Str) = some (.ref as) := by kernel_rfl
theorem progF_derived (aw as : Addr) (vd ve : V) (dn en : Addr) : (progF aw as vd ve dn en).lookup ("derived" : Str) = some vd := by kernel_rfl
theorem progF_effects (aw as : Addr) (vd ve : V) (dn en : Addr) : (progF aw as vd ve dn en).lookup ("effects" : Str) = some ve := by kernel_rfl
theorem progF_dn (aw as : Addr) (vd ve : V) (dn en : Addr) : (progF aw as vd ve dn en).lookup ("_derived_names" : Str) = some (.ref dn) := by kernel_rfl
theorem progF_en (aw as : Addr) (vd ve : V) (dn en : Addr) : (progF aw as vd ve dn en).lookup ("_effect_names" : Str) = some (.ref en) := by kernel_rfl
structure ProgAt (K : PySem.W.Frag) (H : Hp) (C pa : Addr) (p : PP) : Prop where
  ex : ∃ (dx aw as : Addr) (vd ve : V), (∃ (dn en : Addr), H pa = some (.ins C dx (progF aw as vd ve dn en)) ∧ SqT K H dn (p.derived.map fun q => V.str q.1) ∧ SqT K H en (p.effects.map fun q => V.str q.1)) ∧ SqT K H aw (p.words.map V.str) ∧ SqT K H as (p.sources.map V.str) ∧ Tn K H vd (pairsD p.derived) ∧ Tn K H ve (pairsD p.effects)
theorem ProgAt.same {K : PySem.W.Frag} {H H' : Hp} {C sa : Addr} {S : PP} (h : ProgAt K H C sa S) (s : Same H H') : ProgAt K H' C sa S := by
  obtain ⟨dx, aw, as, vd, ve, ⟨dn, en, e, hdn, hen⟩, h1, h2, h3, h4⟩ := h.ex
  exact ⟨dx, aw, as, vd, ve, ⟨dn, en, s _ _ e, SqT.same s hdn, SqT.same s hen⟩, SqT.same s h1, SqT.same s h2, Tn.same s h3, Tn.same s h4⟩
def spProgram (K : PySem.W.Frag) (C : Addr) : Sp := fun vs H Q _ => ∃ (x dx aw as : Addr) (vd ve : V) (p : PP) (m : Nat), vs = [.ref x, .ref aw, .ref as, vd, ve] ∧ H x = some (.ins C dx []) ∧ SqT K H aw (p.words.map V.str) ∧ SqT K H as (p.sources.map V.str) ∧ Tn K H vd (pairsD p.derived) ∧ Tn K H ve (pairsD p.effects) ∧
  p.Ok m ∧ m ≤ 16 ∧ ∀ (dn en : Addr) H', Same H H' → SqT K (upd H' x (.ins C dx (progF aw as vd ve dn en))) dn (p.derived.map fun q => V.str q.1) → SqT K (upd H' x (.ins C dx (progF aw as vd ve dn en))) en (p.effects.map fun q => V.str q.1) → Q .non (upd H' x (.ins C dx (progF aw as vd ve dn en)))
def spBodyOf (K : PySem.W.Frag) (C : Addr) : Sp := fun vs H Q _ => ∃ (pa : Addr) (z : Str) (p : PP) (m : Nat) (q : Str × List Td.Row), vs = [.ref pa, .str z] ∧ ProgAt K H C pa p ∧ p.Ok m ∧ q ∈ p.derived ++ p.effects ∧ q.1 = z ∧
  ∀ (v : V) H', Same H H' → Tn K H' v (.tuple (rowsD q.2)) → Q v H'
def spDerivedNames (K : PySem.W.Frag) (C : Addr) : Sp := fun vs H Q _ => ∃ (pa : Addr) (p : PP) (m : Nat), vs = [.ref pa] ∧ ProgAt K H C pa p ∧ p.Ok m ∧
  ∀ (t : Addr) H', Same H H' → SqT K H' t (p.derived.map fun q => V.str q.1) → Q (.ref t) H'
section
variable {P : Program} {w : World} {K : PySem.W.Frag} {mg : Str → Option Value} {base : Heap}
theorem ok_check_body (T : Tops w K mg) (G_first_wrong_path : FnOk P w K mg base CX0 7 T.a_first_wrong_path T.d_first_wrong_path ["rows", "scope", "base", "depth"] (spFirst K T.c_Scope 4))
    (G_paths_of_rows : FnOk P w K mg base CX0 4 T.a_paths_of_rows T.d_paths_of_rows ["rows", "base"] (spPaths K 4)) :
    FnOk P w K mg base CX0 8 T.a_check_body T.d_check_body ["rows", "scope", "index"] (spBody K T.c_Scope) := by
  refine T.F_check_body.ok sc_check_body (fun vs H Q E h => ?_) (fun cdv A outer s H vs Q E hr h => ?_)
  · obtain ⟨v, sa, S, rs, i, rfl, _⟩ := h
    rfl
  obtain ⟨v, sa, S, rs, i, rfl, hD, hSc, ok, hc, q⟩ := h
  obtain ⟨a, xs, rfl, hS, hl, hx⟩ := rows_at hD
  obtain ⟨dx, aw, as, ar, e, h1, h2, h3⟩ := hSc.ex
  refine ⟨_, (pss_cons (ps_set (i := 3) sc_check_body.nd rfl (Or.inl rfl) (pe_tup (pa_cons (pe_fld (pv 1) rfl) (pa_cons (pv 2) pa_nil))))
    (pss_cons (ps_if (pt_not (pt_val (pe_callB call_isi rfl T.z_isinstance (by decide +kernel) (pa_cons (pv 0) (pa_cons (pe_bltn (v := .ty "tuple") rfl T.z_tuple (by decide +kernel) rfl) pa_nil))))) (pss_one ps_never) pss_nil)
    (pss_cons (ps_set (i := 4) sc_check_body.nd rfl (Or.inl rfl) (pe_call G_first_wrong_path (hr.mono (by omega)) rfl T.m_first_wrong_path T.F_first_wrong_path.kp T.b_first_wrong_path .nil pass0 (pa_cons (pv 0) (pa_cons (pv 1) (pa_cons (pv 3) (pa_cons pe_int pa_nil))))))
    (pss_cons (ps_if (pt_cmpR op_notN (pv 4) pe_non (nomark _)) (pss_one ps_never) pss_nil)
    (pss_one (ps_if (pt_cmpR op_gt (pe_callB call_len rfl T.z_len PySem.boot_len (pa_cons (pe_call G_paths_of_rows (hr.mono (by omega)) rfl T.m_paths_of_rows T.F_paths_of_rows.kp T.b_paths_of_rows .nil pass0 (pa_cons (pv 0) (pa_cons (pv 3) pa_nil))) pa_nil)) (pe_glob (v := .int 16) rfl T.c_MOST_ROWS ⟨_, rfl⟩) (nomark _)) (pss_one ps_never) pss_nil)))))), ?_⟩
  refine ⟨_, rfl, sa, _, dx, _, _, rfl, e, T.l_Scope, T.n_Scope_kind, scF_kind .., _, rfl, by show 2 ≤ sizeLine; decide, fun b hb => ?_⟩
  have s1 : Same H (upd H b (.tup [.str (kdS S.eff), .int i])) := Same.new hb _
  have hB : SqT K (upd H b (.tup [.str (kdS S.eff), .int i])) b [.str (kdS S.eff), .int i] := SqT.of upd_same
  show tSeq _ _ _ _ (upd H b (.tup [.str (kdS S.eff), .int i]))
  generalize upd H b (.tup [.str (kdS S.eff), .int i]) = H1 at s1 hB
  refine ⟨_, rfl, .ref a, .ty "tuple", .type "tuple", .type "tuple", true, rfl, .ty _, ty_tup (SqT.same s1 hS), kit_ty (by decide +kernel), true, rfl, if_false_of rfl ?_⟩
  refine ⟨_, rfl, _, rfl, _, rfl, _, sa, b, _, S, 1, rs, rfl, Dp.same s1 hD, hSc.same s1, hB, by simp, by simp, ok, by omega, by omega, fun H2 s2 => ?_⟩
  refine ⟨_, rfl, rfl, _, rfl, if_false_of rfl ?_⟩
  have s12 := s1.trans s2
  refine ⟨_, rfl, _, rfl, _, b, _, S, 1, rs, rfl, Dp.same s12 hD, SqT.same s2 hB, by simp, by simp, ok, by omega, by omega, by omega, fun p ys H3 s3 hp hy hyl => ?_⟩
  refine ⟨.ref p, _, rfl, .inl ⟨_, SqL.of hy, rfl⟩, _, _, rfl, rfl, _, rfl, if_false_of (decide_eq_false (by rw [hyl]; omega)) ?_⟩
  exact q H3 (s12.trans s3)
theorem ok_check_bodies (T : Tops w K mg) (G_check_body : FnOk P w K mg base CX0 8 T.a_check_body T.d_check_body ["rows", "scope", "index"] (spBody K T.c_Scope))
    (G_Scope_init : FnOk P w K mg base CX0 1 T.a_Scope_init T.d_Scope_init ["self", "kind", "words", "sources", "readable"] (spScope T.c_Scope)) :
    FnOk P w K mg base CX0 9 T.a_check_bodies T.d_check_bodies ["words", "sources", "derived", "effects"] (spBodies K) := by
  refine T.F_check_bodies.ok sc_check_bodies (fun vs H Q E h => ?_) (fun cdv A outer s H vs Q E hr h => ?_)
  · obtain ⟨aw, as, vd, ve, p, m, rfl, _⟩ := h
    rfl
  obtain ⟨aw, as, vd, ve, p, m, rfl, hW, hSo, hDe, hEf, ok, hm, q⟩ := h
  obtain ⟨ad, xs, rfl, hA, hl, hx⟩ := pairs_at hDe
  obtain ⟨ae, ys, rfl, hA2, hl2, hx2⟩ := pairs_at hEf
  refine ⟨_, (pss_cons (ps_set (i := 4) sc_check_bodies.nd rfl (Or.inl rfl) (pv 1))
    (pss_cons (ps_for PassesOwn.never rfl (pi_enumT rfl T.z_enumerate (pa_cons (pv 2) pa_nil)) (pg_tup rfl (pgs_cons (pg_name (i := 5) sc_check_bodies.nd rfl (Or.inl rfl)) (pgs_cons (pg_tup rfl (pgs_cons (pg_name (i := 6) sc_check_bodies.nd rfl (Or.inl rfl)) (pgs_cons (pg_name (i := 7) sc_check_bodies.nd rfl (Or.inl rfl)) pgs_nil))) pgs_nil))) (pss_cons (ps_expr (pe_call G_check_body (hr.mono (by omega)) rfl T.m_check_body T.F_check_body.kp T.b_check_body .nil pass0 (pa_cons (pv 7) (pa_cons (pe_make T.k_Scope G_Scope_init (hr.mono (by omega)) rfl T.m_Scope T.b_Scope_init .nil pass0 (pa_cons pe_str (pa_cons (pv 0) (pa_cons (pv 1) (pa_cons (pv 4) pa_nil))))) (pa_cons (pv 5) pa_nil)))))
    (pss_one (ps_set (i := 4) sc_check_bodies.nd rfl (Or.inl rfl) (pe_op op_catA (pv 4) (pe_tup (pa_cons (pv 6) pa_nil)))))))
    (pss_one (ps_for PassesOwn.never rfl (pi_enumT rfl T.z_enumerate (pa_cons (pv 3) pa_nil)) (pg_tup rfl (pgs_cons (pg_name (i := 5) sc_check_bodies.nd rfl (Or.inl rfl)) (pgs_cons (pg_tup rfl (pgs_cons (pg_name (i := 8) sc_check_bodies.nd rfl (Or.inl rfl)) (pgs_cons (pg_name (i := 7) sc_check_bodies.nd rfl (Or.inl rfl)) pgs_nil))) pgs_nil))) (pss_one (ps_expr (pe_call G_check_body (hr.mono (by omega)) rfl T.m_check_body T.F_check_body.kp T.b_check_body .nil pass0 (pa_cons (pv 7) (pa_cons (pe_make T.k_Scope G_Scope_init (hr.mono (by omega)) rfl T.m_Scope T.b_Scope_init .nil pass0 (pa_cons pe_str (pa_cons (pv 0) (pa_cons (pv 1) (pa_cons (pv 4) pa_nil))))) (pa_cons (pv 5) pa_nil)))))))))), ?_⟩
  refine ⟨_, rfl, ?_⟩
  refine ⟨_, rfl, ad, _, rfl, hA, for_enumT (K := K) (a := ad) (xs := xs) (fun i σ H' => ∃ (ar : Addr) (v5 v6 v7 : Option V), σ = [some (.ref aw), some (.ref as), some (.ref ad), some (.ref ae), some (.ref ar), v5, v6, v7, none] ∧ Same H H' ∧ SqT K H' ar ((p.sources ++ (p.derived.take i).map (·.1)).map V.str))
    ⟨as, none, none, none, rfl, Same.refl _, by simpa using hSo⟩ (fun i σ H' _ ⟨_, _, _, _, _, hs, _⟩ => SqT.same hs hA) ?_ ?_⟩
  · rintro i x σ H1 t hi ⟨ar, v5, v6, v7, rfl, hs, hR⟩ ht
    obtain ⟨qq, b, vr, hq, rfl, hB, hT⟩ := hx i x hi
    have hs1 : Same H (upd H1 t (.tup [.int (i : Nat), .ref b])) := hs.trans (Same.new ht _)
    have hR1 := SqT.same (Same.new ht (.tup [.int (i : Nat), .ref b])) hR
    refine ⟨t, _, rfl, SqT.of upd_same, rfl, _, _, rfl, _, _, rfl, ⟨b, _, rfl, SqT.same hs1 hB, rfl, _, _, rfl, _, _, rfl, rfl, ?_⟩⟩
    generalize upd H1 t (.tup [.int (i : Nat), .ref b]) = H2 at hs1 hR1
    obtain ⟨okd, hcd⟩ := okDer_get ok.der hq
    refine ⟨rfl, _, rfl, _, rfl, _, rfl, _, rfl, fun x dx hx hdx hne => ⟨x, dx, aw, as, ar, "derived", rfl, upd_same, rfl, _, rfl, ?_⟩⟩
    obtain ⟨H3, e3, s3, sc3⟩ := scope_made (C := T.c_Scope) (S := ⟨false, p.words, p.sources, p.sources ++ (p.derived.take i).map (·.1)⟩) hx hdx hne (SqT.same hs1 hW) (SqT.same hs1 hSo) hR1
    rw [show ("derived" : Str) = kdS false from rfl, e3]
    refine ⟨vr, x, _, qq.2, _, rfl, Dp.same (hs1.trans s3) hT.dp, sc3, okd, by omega, fun H4 s4 => ?_⟩
    have s24 := s3.trans s4
    refine ⟨_, rfl, _, rfl, by show 1 ≤ sizeLine; decide, fun t1 ht1 => ?_⟩
    have s25 := s24.trans (Same.new ht1 (.tup [.str qq.1]))
    refine cat_all (SqT.same s25 hR1) (SqT.of upd_same) (Nat.le_of_lt (small1000 ?_)) (fun ar2 H6 s6 hR6 => ?_)
    · have h1 := ok.s4
      have h2 := ok.d6
      simp
      omega
    · refine ⟨ar2, _, _, _, rfl, hs1.trans (s25.trans s6), ?_⟩
      rw [take_more hq]
      have hR7 : SqT K H6 ar2 (((p.sources ++ (p.derived.take i).map (·.1)).map V.str) ++ [V.str qq.1]) := hR6
      simpa using hR7
  · rintro σ H1 ⟨ar, v5, v6, v7, rfl, hs, hR⟩
    rw [hl, List.take_length] at hR
    refine ⟨_, rfl, ae, _, rfl, SqT.same hs hA2, for_enumT (K := K) (a := ae) (xs := ys) (fun i σ H' => ∃ (v5 v6 v7 v8 : Option V), σ = [some (.ref aw), some (.ref as), some (.ref ad), some (.ref ae), some (.ref ar), v5, v6, v7, v8] ∧ Same H1 H')
      ⟨v5, v6, v7, none, rfl, Same.refl _⟩ (fun i σ H' _ ⟨_, _, _, _, _, h⟩ => SqT.same (hs.trans h) hA2) ?_ ?_⟩
    · rintro i x σ H2 t hi ⟨v5, v6, v7, v8, rfl, hs2⟩ ht
      obtain ⟨qq, b, vr, hq, rfl, hB, hT⟩ := hx2 i x hi
      have hs3 : Same H1 (upd H2 t (.tup [.int (i : Nat), .ref b])) := hs2.trans (Same.new ht _)
      refine ⟨t, _, rfl, SqT.of upd_same, rfl, _, _, rfl, _, _, rfl, ⟨b, _, rfl, SqT.same (hs.trans hs3) hB, rfl, _, _, rfl, _, _, rfl, rfl, ?_⟩⟩
      generalize upd H2 t (.tup [.int (i : Nat), .ref b]) = H3 at hs3
      obtain ⟨okd, hcd⟩ := okEff_get ok.eff hq
      refine ⟨rfl, _, rfl, _, rfl, _, rfl, _, rfl, fun x dx hx hdx hne => ⟨x, dx, aw, as, ar, "effects", rfl, upd_same, rfl, _, rfl, ?_⟩⟩
      obtain ⟨H4, e4, s4, sc4⟩ := scope_made (C := T.c_Scope) (S := ⟨true, p.words, p.sources, p.cells⟩) hx hdx hne (SqT.same (hs.trans hs3) hW) (SqT.same (hs.trans hs3) hSo) (SqT.same hs3 hR)
      rw [show ("effects" : Str) = kdS true from rfl, e4]
      refine ⟨vr, x, _, qq.2, _, rfl, Dp.same ((hs.trans hs3).trans s4) hT.dp, sc4, okd, by omega, fun H5 s5 => ?_⟩
      exact ⟨_, _, _, _, rfl, hs3.trans (s4.trans s5)⟩
    · rintro σ H2 ⟨_, _, _, _, rfl, hs2⟩
      exact q H2 (hs.trans hs2)
end
end K09
namespace K09
open PySem PySem.Spec PyProof.Rows L2 Td
theorem names_parts {p : PP} (h : Names p.names) : Names p.sources ∧ Names (p.sources ++ p.derived.map (·.1)) ∧ Names ((p.sources ++ p.derived.map (·.1)) ++ p.effects.map (·.1)) := by
  have e : p.names = (p.sources ++ p.derived.map (·.1)) ++ p.effects.map (·.1) := rfl
  rw [e] at h
  have h2 := Names.sub h (List.sublist_append_left _ _)
  exact ⟨Names.sub h2 (List.sublist_append_left _ _), h2, h⟩
theorem pairs_append {K : PySem.W.Frag} {H : Hp} {xs ys : List V} {ps qs : List (Str × List Td.Row)} (h1 : TnAll K H xs (ps.map Td.pairD)) (h2 : TnAll K H ys (qs.map Td.pairD)) : TnAll K H (xs ++ ys) ((ps ++ qs).map Td.pairD) := by
  rw [List.map_append]; exact TnAll.append h1 h2
/-- only one pair bears a name -/
theorem pair_unique {ps : List (Str × List Td.Row)} (h : (ps.map (·.1)).Nodup) {q r : Str × List Td.Row} (hq : q ∈ ps) (hr : r ∈ ps) (e : q.1 = r.1) : q = r := by
  induction ps with
  | nil => cases hq
  | cons x l ih =>
    rw [List.map_cons, List.nodup_cons] at h
    rcases List.mem_cons.mp hq with rfl | hq'
    · rcases List.mem_cons.mp hr with rfl | hr'
      · rfl
      · exact absurd (e ▸ List.mem_map.mpr ⟨r, hr', rfl⟩) h.1
    · rcases List.mem_cons.mp hr with rfl | hr'
      · exact absurd (e.symm ▸ List.mem_map.mpr ⟨q, hq', rfl⟩) h.1
      · exact ih h.2 hq' hr'
section
variable {P : Program} {w : World} {K : PySem.W.Frag} {mg : Str → Option Value} {base : Heap}
theorem ok_check_parts (T : Tops w K mg) (G_are_names : FnOk P w K mg base CX0 2 T.a_are_names T.d_are_names ["value", "least", "most"] (spAreNames K))
    (G_are_named_pairs : FnOk P w K mg base CX0 2 T.a_are_named_pairs T.d_are_named_pairs ["value", "most", "taken"] (spNamedPairs K))
    (G_names_of : FnOk P w K mg base CX0 1 T.a_names_of T.d_names_of ["pairs"] (spNamesOf K)) :
    FnOk P w K mg base CX0 3 T.a_check_parts T.d_check_parts ["words", "sources", "derived", "effects"] (spBodies K) := by
  refine T.F_check_parts.ok sc_check_parts (fun vs H Q E h => ?_) (fun cdv A outer s H vs Q E hr h => ?_)
  · obtain ⟨aw, as, vd, ve, p, m, rfl, _⟩ := h
    rfl
  obtain ⟨aw, as, vd, ve, p, m, rfl, hW, hSo, hDe, hEf, ok, hm, q⟩ := h
  obtain ⟨n1, n2, n3⟩ := names_parts ok.nn
  have w2 := ok.w2
  have w4 := ok.w4
  have s1 := ok.s1
  have s4 := ok.s4
  have d6 := ok.d6
  have e4 := ok.e4
  refine ⟨_, (pss_cons (ps_if (pt_not (pt_val (pe_call G_are_names (hr.mono (by omega)) rfl T.m_are_names T.F_are_names.kp T.b_are_names .nil pass0 (pa_cons (pv 0) (pa_cons (pe_glob (v := .int 2) rfl T.c_LEAST_WORDS ⟨_, rfl⟩) (pa_cons (pe_glob (v := .int 4) rfl T.c_MOST_WORDS ⟨_, rfl⟩) pa_nil)))))) (pss_one ps_never) pss_nil)
    (pss_cons (ps_if (pt_not (pt_val (pe_call G_are_names (hr.mono (by omega)) rfl T.m_are_names T.F_are_names.kp T.b_are_names .nil pass0 (pa_cons (pv 1) (pa_cons (pe_glob (v := .int 1) rfl T.c_LEAST_SOURCES ⟨_, rfl⟩) (pa_cons (pe_glob (v := .int 4) rfl T.c_MOST_SOURCES ⟨_, rfl⟩) pa_nil)))))) (pss_one ps_never) pss_nil)
    (pss_cons (ps_if (pt_not (pt_val (pe_call G_are_named_pairs (hr.mono (by omega)) rfl T.m_are_named_pairs T.F_are_named_pairs.kp T.b_are_named_pairs .nil pass0 (pa_cons (pv 2) (pa_cons (pe_glob (v := .int 6) rfl T.c_MOST_DERIVED ⟨_, rfl⟩) (pa_cons (pv 1) pa_nil)))))) (pss_one ps_never) pss_nil)
    (pss_one (ps_if (pt_not (pt_val (pe_call G_are_named_pairs (hr.mono (by omega)) rfl T.m_are_named_pairs T.F_are_named_pairs.kp T.b_are_named_pairs .nil pass0 (pa_cons (pv 3) (pa_cons (pe_glob (v := .int 4) rfl T.c_MOST_EFFECTS ⟨_, rfl⟩) (pa_cons (pe_op op_catA (pv 1) (pe_call G_names_of (hr.mono (by omega)) rfl T.m_names_of T.F_names_of.kp T.b_names_of .nil pass0 (pa_cons (pv 2) pa_nil))) pa_nil)))))) (pss_one ps_never) pss_nil))))), ?_⟩
  refine ⟨_, rfl, aw, p.words, _, _, rfl, hW, ok.wn, by omega, by omega, by omega, fun H1 h1 => ⟨_, rfl, if_false_of rfl ?_⟩⟩
  refine ⟨_, rfl, as, p.sources, _, _, rfl, SqT.same h1 hSo, n1, by omega, by omega, by omega, fun H2 h2 => ⟨_, rfl, if_false_of rfl ?_⟩⟩
  have h12 := h1.trans h2
  refine ⟨_, rfl, _, rfl, vd, as, p.derived, p.sources, _, rfl, Tn.same h12 hDe, SqT.same h12 hSo, n2, by omega, by omega, by omega, fun H3 h3 => ⟨_, rfl, if_false_of rfl ?_⟩⟩
  have h13 := h12.trans h3
  refine ⟨_, rfl, _, rfl, _, rfl, vd, p.derived, rfl, Tn.same h13 hDe, by omega, fun b H4 h4 hb => ?_⟩
  have h14 := h13.trans h4
  refine cat_all (SqT.same h14 hSo) hb (Nat.le_of_lt (small1000 (by rw [List.length_map, List.length_map]; omega))) (fun c H5 h5 hc => ?_)
  refine ⟨ve, c, p.effects, p.sources ++ p.derived.map (·.1), _, rfl, Tn.same (h14.trans h5) hEf, ?_, n3, by omega, by omega, by rw [List.length_append, List.length_map]; omega, fun H6 h6 => ⟨_, rfl, if_false_of rfl ?_⟩⟩
  · have hc' : SqT K H5 c (p.sources.map V.str ++ p.derived.map fun q => V.str q.1) := hc
    rw [List.map_append, List.map_map]; exact hc'
  · exact q H6 ((h14.trans h5).trans h6)
/-- an object amid its making -/
theorem made_same {H0 H2 H3 : Hp} {x : Addr} {o o1 : HO} (s : Same H0 H2) (hx : H0 x = some o) (s3 : Same (upd H2 x o1) H3) : Same H0 (upd H3 x o) := fun b u e => by
  by_cases eb : b = x
  · subst eb; rw [hx] at e; rw [upd_same]; exact e
  · rw [upd_ne eb]; exact s3 _ _ (by rw [upd_ne eb]; exact s _ _ e)
theorem ok_program (T : Tops w K mg) (G_check_parts : FnOk P w K mg base CX0 3 T.a_check_parts T.d_check_parts ["words", "sources", "derived", "effects"] (spBodies K))
    (G_check_bodies : FnOk P w K mg base CX0 9 T.a_check_bodies T.d_check_bodies ["words", "sources", "derived", "effects"] (spBodies K))
    (G_names_of : FnOk P w K mg base CX0 1 T.a_names_of T.d_names_of ["pairs"] (spNamesOf K)) :
    FnOk P w K mg base CX0 10 T.a_Program_init T.d_Program_init ["self", "words", "sources", "derived", "effects"] (spProgram K T.c_Program) := by
  refine T.F_Program_init.ok sc_Program_init (fun vs H Q E h => ?_) (fun cdv A outer s H vs Q E hr h => ?_)
  · obtain ⟨x, dx, aw, as, vd, ve, p, m, rfl, _⟩ := h
    rfl
  obtain ⟨x, dx, aw, as, vd, ve, p, m, rfl, hx, hW, hSo, hDe, hEf, ok, hm, q⟩ := h
  refine ⟨_, (pss_cons (ps_expr (pe_call G_check_parts (hr.mono (by omega)) rfl T.m_check_parts T.F_check_parts.kp T.b_check_parts .nil pass0 (pa_cons (pv 1) (pa_cons (pv 2) (pa_cons (pv 3) (pa_cons (pv 4) pa_nil))))))
    (pss_cons (ps_expr (pe_call G_check_bodies (hr.mono (by omega)) rfl T.m_check_bodies T.F_check_bodies.kp T.b_check_bodies .nil pass0 (pa_cons (pv 1) (pa_cons (pv 2) (pa_cons (pv 3) (pa_cons (pv 4) pa_nil))))))
    (pss_cons (ps_fld (pv 0) (pv 1) rfl)
    (pss_cons (ps_fld (pv 0) (pv 2) rfl)
    (pss_cons (ps_fld (pv 0) (pv 3) rfl)
    (pss_cons (ps_fld (pv 0) (pv 4) rfl)
    (pss_cons (ps_fld (pv 0) (pe_call G_names_of (hr.mono (by omega)) rfl T.m_names_of T.F_names_of.kp T.b_names_of .nil pass0 (pa_cons (pv 3) pa_nil)) rfl)
    (pss_one (ps_fld (pv 0) (pe_call G_names_of (hr.mono (by omega)) rfl T.m_names_of T.F_names_of.kp T.b_names_of .nil pass0 (pa_cons (pv 4) pa_nil)) rfl))))))))), ?_⟩
  refine ⟨_, rfl, _, rfl, _, rfl, _, rfl, aw, as, vd, ve, p, m, rfl, hW, hSo, hDe, hEf, ok, hm, fun H1 h1 => ?_⟩
  refine ⟨_, rfl, _, rfl, _, rfl, _, rfl, aw, as, vd, ve, p, m, rfl, SqT.same h1 hW, SqT.same h1 hSo, Tn.same h1 hDe, Tn.same h1 hEf, ok, hm, fun H2 h2 => ?_⟩
  have h12 := h1.trans h2
  refine ⟨_, rfl, _, rfl, x, T.c_Program, dx, [], rfl, h12 _ _ hx, T.l_Program, T.n_Program_words, by show 0 < 1000; decide, ?_⟩
  refine ⟨_, rfl, _, rfl, x, T.c_Program, dx, _, rfl, upd_same, T.l_Program, T.n_Program_sources, by show 1 < 1000; decide, ?_⟩
  rw [upd_upd]
  refine ⟨_, rfl, _, rfl, x, T.c_Program, dx, _, rfl, upd_same, T.l_Program, T.n_Program_derived, Nat.lt_of_le_of_lt (m := 2) (Nat.le_of_eq (by kernel_rfl)) (by decide), ?_⟩
  rw [upd_upd]
  refine ⟨_, rfl, _, rfl, x, T.c_Program, dx, _, rfl, upd_same, T.l_Program, T.n_Program_effects, Nat.lt_of_le_of_lt (m := 3) (Nat.le_of_eq (by kernel_rfl)) (by decide), ?_⟩
  rw [upd_upd]
  have d6 := ok.d6
  have e4 := ok.e4
  have hx2 := h12 _ _ hx
  have tk0 : ∀ o : HO, TK H2 (upd H2 x o) := fun o => TK.upd (by rw [hx2]; trivial)
  refine ⟨_, rfl, vd, p.derived, rfl, Tn.keep (tk0 _) (Tn.same h12 hDe), by omega, fun t1 H3 s3 ht1 => ?_⟩
  have hx3 := s3 _ _ upd_same
  refine ⟨_, rfl, x, T.c_Program, dx, _, rfl, hx3, T.l_Program, T.n_Program__derived_names, Nat.lt_of_le_of_lt (m := 4) (Nat.le_of_eq (by kernel_rfl)) (by decide), ?_⟩
  have tk1 : ∀ o : HO, TK H3 (upd H3 x o) := fun o => TK.upd (by rw [hx3]; trivial)
  refine ⟨_, rfl, ve, p.effects, rfl, Tn.keep (tk1 _) (Tn.same s3 (Tn.keep (tk0 _) (Tn.same h12 hEf))), by omega, fun t2 H4 s4 ht2 => ?_⟩
  have hx4 := s4 _ _ upd_same
  refine ⟨_, rfl, x, T.c_Program, dx, _, rfl, hx4, T.l_Program, T.n_Program__effect_names, Nat.lt_of_le_of_lt (m := 5) (Nat.le_of_eq (by kernel_rfl)) (by decide), ?_⟩
  have tk2 : ∀ o : HO, TK H4 (upd H4 x o) := fun o => TK.upd (by rw [hx4]; trivial)
  have sH := made_same (made_same h12 hx s3) hx (by rw [upd_upd]; exact s4)
  rw [progF_put]
  have q2 := q t1 t2 _ sH
  rw [upd_upd] at q2
  exact q2 (SqT.tk (tk2 _) (SqT.same s4 (SqT.tk (tk1 _) ht1))) (SqT.tk (tk2 _) ht2)
theorem ok_body (T : Tops w K mg) : FnOk P w K mg base CX0 1 T.a_Program_body T.d_Program_body ["self", "name"] (spBodyOf K T.c_Program) := by
  refine T.F_Program_body.ok sc_Program_body (fun vs H Q E h => ?_) (fun cdv A outer s H vs Q E hr h => ?_)
  · obtain ⟨pa, z, p, m, qq, rfl, _⟩ := h
    rfl
  obtain ⟨pa, z, p, m, qq, rfl, hP, ok, hin, rfl, q⟩ := h
  obtain ⟨dx, aw, as, vd, ve, ⟨dn, en, e, hdn, hen⟩, h1, h2, h3, h4⟩ := hP.ex
  obtain ⟨ad, xs, rfl, hA, hTA⟩ := Tn.tup_inv h3
  obtain ⟨ae, ys, rfl, hA2, hTA2⟩ := Tn.tup_inv h4
  have d6 := ok.d6
  have e4 := ok.e4
  have lx := hTA.length
  have ly := hTA2.length
  rw [List.length_map] at lx ly
  refine ⟨_, (pss_cons (ps_for PassesOwn.never rfl (pi_tup (pe_op op_catA (pe_fld (pv 0) rfl) (pe_fld (pv 0) rfl))) (pg_tup rfl (pgs_cons (pg_name (i := 2) sc_Program_body.nd rfl (Or.inl rfl)) (pgs_cons (pg_name (i := 3) sc_Program_body.nd rfl (Or.inl rfl)) pgs_nil))) (pss_one (ps_if (pt_cmpR op_eq (pv 2) (pv 1) (nomark _)) (pss_one (ps_ret (pv 3))) pss_nil)))
    (pss_one ps_never)), ?_⟩
  refine ⟨_, rfl, pa, _, dx, _, _, rfl, e, T.l_Program, T.n_Program_derived, progF_derived .., _, rfl, pa, _, dx, _, _, rfl, e, T.l_Program, T.n_Program_effects, progF_effects .., ?_⟩
  refine cat_all hA hA2 (Nat.le_of_lt (small1000 (by omega))) (fun c H1 s1 hc => ?_)
  have hT : Tn K H1 (.ref c) (pairsD (p.derived ++ p.effects)) := .tup hc (TnAll.keep (TK.of_same s1) (pairs_append hTA hTA2))
  obtain ⟨c', zs, e2, hC, hl, hx⟩ := pairs_at hT
  cases e2
  have nd : ((p.derived ++ p.effects).map (·.1)).Nodup := by
    have := ok.nn.nd
    unfold PP.names at this
    rw [List.append_assoc] at this
    rw [List.map_append]
    exact this.sublist (List.sublist_append_right _ _)
  refine ⟨c, rfl, ⟨_, hC⟩, for_tup (K := K) (a := c) (xs := zs) (fun i σ H' => ∃ (v2 v3 : Option V), σ = [some (.ref pa), some (.str qq.1), v2, v3] ∧ Same H1 H' ∧ ∀ j r, j < i → (p.derived ++ p.effects)[j]? = some r → r.1 ≠ qq.1)
    ⟨none, none, rfl, Same.refl _, fun j r h => absurd h (Nat.not_lt_zero j)⟩ (fun i σ H' _ ⟨_, _, _, hs, _⟩ => SqT.same hs hC) ?_ ?_⟩
  · rintro i x σ H2 hi ⟨v2, v3, rfl, hs, hno⟩
    obtain ⟨r, b, vr, hr1, rfl, hB, hR⟩ := hx i x hi
    refine ⟨b, _, rfl, SqT.same hs hB, rfl, _, _, rfl, _, _, rfl, rfl, ?_⟩
    refine ⟨_, rfl, _, rfl, rfl, _, rfl, ?_⟩
    by_cases en : r.1 = qq.1
    · refine if_true_of (by rw [en]; exact decide_eq_true rfl) ?_
      have hrq : r = qq := pair_unique nd (List.mem_of_getElem? hr1) hin en
      subst hrq
      exact ⟨_, rfl, q vr H2 (s1.trans hs) (Tn.same hs hR)⟩
    · refine if_false_of (decide_eq_false (fun h => en (by injection h))) ⟨_, _, rfl, hs, fun j r' hj hr' => ?_⟩
      by_cases ej : j = i
      · subst ej; rw [hr1] at hr'; cases hr'; exact en
      · exact hno j r' (by omega) hr'
  · rintro σ H2 ⟨v2, v3, rfl, hs, hno⟩
    obtain ⟨j, hj⟩ := List.getElem?_of_mem hin
    exact absurd rfl (hno j qq (by rw [hl]; exact (List.getElem?_eq_some_iff.mp hj).1) hj)
end
end K09
namespace K09
open PySem PySem.Spec PyProof.Rows L2 Td
/-! ### data of any shape, not large -/
def smB : Nat → PyData → Bool
  | 0, _ => false
  | _ + 1, .none => true
  | _ + 1, .bool _ => true
  | _ + 1, .int _ => true
  | _ + 1, .str z => decide (z.length ≤ 100) && PyData.strOk z
  | k + 1, .list ds => decide (ds.length ≤ 100) && ds.all (smB k)
  | k + 1, .tuple ds => decide (ds.length ≤ 100) && ds.all (smB k)
  | _ + 1, .dict _ => false
theorem sm_all {k : Nat} : ∀ ds : List PyData, (∀ x ∈ ds, x.canLay0 = true ∧ x.depth ≤ k) → PyData.canLayAll0 ds = true ∧ PyData.depthAll ds ≤ k
  | [], _ => ⟨rfl, by simp [PyData.depthAll]⟩
  | d :: ds, h => by
    have h1 := h d List.mem_cons_self
    have h2 := sm_all ds fun x hx => h x (List.mem_cons_of_mem _ hx)
    refine ⟨?_, ?_⟩
    · simp only [PyData.canLayAll0, h1.1, h2.1]; rfl
    · have := h1.2; have := h2.2; simp only [PyData.depthAll]; omega
theorem sm_lay : ∀ (k : Nat) (d : PyData), smB k d = true → d.canLay0 = true ∧ d.depth ≤ k
  | 0, d, h => by simp [smB] at h
  | k + 1, .none, _ => ⟨by simp only [PyData.canLay0], by simp [PyData.depth]⟩
  | k + 1, .bool _, _ => ⟨by simp only [PyData.canLay0], by simp [PyData.depth]⟩
  | k + 1, .int _, _ => ⟨by simp only [PyData.canLay0], by simp [PyData.depth]⟩
  | k + 1, .str z, h => by
    simp only [smB, Bool.and_eq_true] at h
    exact ⟨by simp only [PyData.canLay0, h.2], by simp [PyData.depth]⟩
  | k + 1, .list ds, h => by
    simp only [smB, Bool.and_eq_true, List.all_eq_true] at h
    have := sm_all ds fun x hx => sm_lay k x (h.2 x hx)
    exact ⟨by simp only [PyData.canLay0, this.1], by simp only [PyData.depth]; omega⟩
  | k + 1, .tuple ds, h => by
    simp only [smB, Bool.and_eq_true, List.all_eq_true] at h
    have := sm_all ds fun x hx => sm_lay k x (h.2 x hx)
    exact ⟨by simp only [PyData.canLay0, this.1], by simp only [PyData.depth]; omega⟩
theorem sm_tup {k : Nat} {ds : List PyData} (h : smB (k + 1) (.tuple ds) = true) : ds.length ≤ 100 ∧ ∀ x ∈ ds, smB k x = true := by
  simp only [smB, Bool.and_eq_true, List.all_eq_true, decide_eq_true_eq] at h
  exact h
theorem sm_str {k : Nat} {z : Str} (h : smB (k + 1) (.str z) = true) : z.length ≤ 100 := by
  simp only [smB, Bool.and_eq_true, decide_eq_true_eq] at h
  exact h.1
def isNmD : PyData → Bool
  | .str z => isNm z
  | _ => false
def strOf : PyData → Option Str
  | .str z => some z
  | _ => none
def strsOf (ds : List PyData) : List Str := ds.filterMap strOf
theorem strsOf_all : ∀ ds : List PyData, ds.all isNmD = true → ds = (strsOf ds).map PyData.str
  | [], _ => rfl
  | d :: ds, h => by
    rw [List.all_cons, Bool.and_eq_true] at h
    have ih := strsOf_all ds h.2
    cases d with
    | str z =>
      show PyData.str z :: ds = ((strOf (.str z)).toList ++ strsOf ds).map PyData.str
      conv => lhs; rw [ih]
      rfl
    | _ => exact absurd h.1 (by simp [isNmD])
def namesD (l m : Int) : PyData → Bool
  | .tuple ds => decide (l ≤ (ds.length : Int)) && (decide ((ds.length : Int) ≤ m) && (ds.all isNmD && decide (strsOf ds).Nodup))
  | _ => false
/-- the name of a pair -/
def pairNm : PyData → Option Str
  | .tuple [.str z, _] => if isNm z = true then some z else none
  | _ => none
def goP : List Str → List PyData → Bool
  | _, [] => true
  | bf, d :: ds => match pairNm d with
    | some z => !decide (z ∈ bf) && goP (bf ++ [z]) ds
    | none => false
def pairsOk (m : Int) (ts : List Str) : PyData → Bool
  | .tuple ds => decide ((ds.length : Int) ≤ m) && goP ts ds
  | _ => false
def spIsNmD (K : PySem.W.Frag) : Sp := fun vs H Q _ => ∃ (v : V) (d : PyData) (k : Nat), vs = [v] ∧ Dp K H v d ∧ smB k d = true ∧ ∀ H', Same H H' → Q (.bl (isNmD d)) H'
def spNamesD (K : PySem.W.Frag) : Sp := fun vs H Q _ => ∃ (v : V) (d : PyData) (k : Nat) (l m : Int), vs = [v, .int l, .int m] ∧ Dp K H v d ∧ smB k d = true ∧ ∀ H', Same H H' → Q (.bl (namesD l m d)) H'
def spPairsD (K : PySem.W.Frag) : Sp := fun vs H Q _ => ∃ (v : V) (d : PyData) (k : Nat) (m : Int) (tk : Addr) (ts : List Str), vs = [v, .int m, .ref tk] ∧ Dp K H v d ∧ smB k d = true ∧ SqT K H tk (ts.map V.str) ∧ ts.length ≤ 100 ∧ ∀ H', Same H H' → Q (.bl (pairsOk m ts d)) H'
theorem ty_lst {K : PySem.W.Frag} {H : Hp} {a : Addr} {xs : List V} (h : SqL K H a xs) : TyX K H (.ref a) (.type "list") := by
  rcases h with (h | ⟨o, h⟩) | ⟨o, its, n, h, c, _⟩
  · exact .base (.lst h)
  · exact .base (.frz h)
  · exact .kList h c
/-- the type of a datum -/
def tyD : PyData → String
  | .none => "NoneType"
  | .bool _ => "bool"
  | .int _ => "int"
  | .str _ => "str"
  | .list _ => "list"
  | .tuple _ => "tuple"
  | .dict _ => "dict"
theorem ty_data {K : PySem.W.Frag} {H : Hp} {v : V} {d : PyData} (h : Dp K H v d) : TyX K H v (.type (tyD d)) := by
  cases h with
  | non => exact .base .non
  | bl b => exact .base (.bl b)
  | int i => exact .base (.int i)
  | str z => exact .base (.str z)
  | lst hL _ => exact ty_lst hL
  | tup hT _ => exact ty_tup hT
section
variable {P : Program} {w : World} {K : PySem.W.Frag} {mg : Str → Option Value} {base : Heap}
theorem ok_is_nameD (T : Tops w K mg) : FnOk P w K mg base CX0 1 T.a_is_name T.d_is_name ["value"] (spIsNmD K) := by
  refine T.F_is_name.ok sc_is_name (fun vs H Q E h => ?_) (fun cdv A outer s H vs Q E hr h => ?_)
  · obtain ⟨v, d, k, rfl, _⟩ := h
    rfl
  obtain ⟨v, d, k, rfl, hD, hs, q⟩ := h
  refine ⟨_, (pss_cons (ps_if (PW.pt (pw_or (pt_not (pt_val (pe_callB call_isi rfl T.z_isinstance (by decide +kernel) (pa_cons (pv 0) (pa_cons (pe_bltn (v := .ty "str") rfl T.z_str (by decide +kernel) rfl) pa_nil))))) (pw_or1 (pt_not (pt_chain op_le op_le pe_int (pe_callB call_len rfl T.z_len PySem.boot_len (pa_cons (pv 0) pa_nil)) (pe_glob (v := .int 8) rfl T.c_LONGEST_NAME ⟨_, rfl⟩)))))) (pss_one (ps_ret pe_bl)) pss_nil)
    (pss_one (ps_ret (pe_callB (cr_all rfl) rfl T.z_all (by decide +kernel) (pa_cons (pe_lc (own := [("letter", 1)]) (g := gName 1) (tt := tYes) rfl sc_is_name.nd (pi_str (pv 0)) (blkOk_by (own := [("letter", 1)]) (N := N_is_name) (sc := defScope s_is_name) (by decide +kernel)) (fun _ _ _ _ _ => (pg_name (i := 1) sc_is_name.nd rfl (Or.inl rfl))) (fun _ _ _ _ _ => pts_nil) (fun _ _ _ _ _ => (pe_chain op_le_str op_le_str pe_str (pv 1) pe_str))) pa_nil))))), ?_⟩
  cases hD with
  | non => exact ⟨_, rfl, .non, .ty "str", .type "NoneType", .type "str", false, rfl, .ty _, .base .non, kit_ty (by decide +kernel), false, rfl, iteT (q H (Same.refl _))⟩
  | bl b => exact ⟨_, rfl, .bl b, .ty "str", .type "bool", .type "str", false, rfl, .ty _, .base (.bl b), kit_ty (by decide +kernel), false, rfl, iteT (q H (Same.refl _))⟩
  | int i => exact ⟨_, rfl, .int i, .ty "str", .type "int", .type "str", false, rfl, .ty _, .base (.int i), kit_ty (by decide +kernel), false, rfl, iteT (q H (Same.refl _))⟩
  | @lst a xs ds hL _ => exact ⟨_, rfl, .ref a, .ty "str", .type "list", .type "str", false, rfl, .ty _, ty_lst hL, kit_ty (by decide +kernel), false, rfl, iteT (q H (Same.refl _))⟩
  | @tup a xs ds hT _ => exact ⟨_, rfl, .ref a, .ty "str", .type "tuple", .type "str", false, rfl, .ty _, ty_tup hT, kit_ty (by decide +kernel), false, rfl, iteT (q H (Same.refl _))⟩
  | str z =>
    have z100 : z.length ≤ 100 := by
      cases k with
      | zero => simp [smB] at hs
      | succ k => exact sm_str hs
    have zs : z.length ≤ sizeLine := Nat.le_of_lt (small1000 (by omega))
    refine ⟨_, rfl, .str z, .ty "str", .type "str", .type "str", true, rfl, .ty _, .base (.str z), kit_ty (by decide +kernel), true, rfl, iteF ?_⟩
    refine ⟨_, rfl, .str z, _, rfl, ⟨zs, rfl⟩, _, _, rfl, rfl, _, rfl, ?_⟩
    by_cases c1 : 1 ≤ z.length
    · have e1 : decide ((1 : Int) ≤ (z.length : Int)) = true := decide_eq_true (by omega)
      refine if_true_of e1 ?_
      refine ⟨_, _, rfl, rfl, _, rfl, ?_⟩
      by_cases c8 : z.length ≤ 8
      · have e2 : decide ((z.length : Int) ≤ (8 : Int)) = true := decide_eq_true (by omega)
        refine if_false_of (by rw [e2]; rfl) ?_
        have ez : isNm z = z.cps.toList.all lowc := by
          unfold isNm
          rw [decide_eq_true c1, decide_eq_true c8]
          rfl
        refine ⟨_, rfl, z, rfl, fun D hD => lc_str (fun i H' => Same H H' ∧ H' D = some (.lst (((z.cps.toList.take i).map lowc).map V.bl))) ⟨Same.new hD _, upd_same⟩ ?_ ?_⟩
        · rintro i c H' hc ⟨hs', hb⟩
          have na : ("a" : Str).cps.toList = [97] := by decide +kernel
          have nz : ("z" : Str).cps.toList = [122] := by decide +kernel
          have hct : z.cps.toList[i]? = some c := by rw [Array.getElem?_toList]; exact hc
          have hic : i < z.cps.toList.length := (List.getElem?_eq_some_iff.mp hct).1
          have hz8 : z.cps.toList.length ≤ 8 := c8
          have k1 : (!decide ((⟨#[c]⟩ : Str).cps.toList < ("a" : Str).cps.toList)) = decide (97 ≤ c) := by
            rw [na]
            show (!decide ([c] < [97])) = _
            by_cases h : 97 ≤ c
            · simp [List.cons_lt_cons_iff, h]
            · have h' : c < 97 := by omega
              simp [List.cons_lt_cons_iff, h, h']
          have k2 : (!decide (("z" : Str).cps.toList < (⟨#[c]⟩ : Str).cps.toList)) = decide (c ≤ 122) := by
            rw [nz]
            show (!decide ([122] < [c])) = _
            by_cases h : c ≤ 122
            · simp [List.cons_lt_cons_iff, h]
            · have h' : 122 < c := by omega
              simp [List.cons_lt_cons_iff, h, h']
          have next : Same H (upd H' D (.lst (((z.cps.toList.take i).map lowc).map V.bl ++ [.bl (lowc c)]))) ∧ upd H' D (.lst (((z.cps.toList.take i).map lowc).map V.bl ++ [.bl (lowc c)])) D = some (.lst (((z.cps.toList.take (i + 1)).map lowc).map V.bl)) :=
            ⟨own_same hs' hD, by rw [upd_same, take_more hct, List.map_append, List.map_append]; rfl⟩
          refine ⟨rfl, ?_⟩
          refine tYes_of ?_
          refine ⟨_, rfl, _, _, rfl, rfl, _, rfl, ?_⟩
          by_cases h1 : 97 ≤ c
          · refine if_true_of (k1.trans (decide_eq_true h1)) ?_
            refine ⟨_, _, rfl, rfl, _, hb, small1000 (by rw [List.length_map, List.length_map, List.length_take]; omega), ?_⟩
            have e : lowc c = (!decide (("z" : Str).cps.toList < (⟨#[c]⟩ : Str).cps.toList)) := by rw [k2]; unfold lowc; rw [decide_eq_true h1]; rfl
            rw [e] at next
            exact next
          · refine if_false_of (k1.trans (decide_eq_false h1)) ?_
            refine ⟨_, hb, small1000 (by rw [List.length_map, List.length_map, List.length_take]; omega), ?_⟩
            have e : lowc c = false := by unfold lowc; rw [decide_eq_false h1]; rfl
            rw [e] at next
            exact next
        · rintro H' ⟨hs', hb⟩
          have hb' : H' D = some (.lst ((z.cps.toList.map lowc).map V.bl)) := by
            rw [List.take_of_length_le (by rw [Array.length_toList]; exact Nat.le_refl _)] at hb
            exact hb
          refine ⟨D, _, rfl, SqL.of hb', ?_⟩
          have e : ((z.cps.toList.map lowc).all id) = isNm z := by rw [ez, List.all_map]; rfl
          rw [e]
          exact q H' hs'
      · have e2 : decide ((z.length : Int) ≤ (8 : Int)) = false := decide_eq_false (by omega)
        refine if_true_of (by rw [e2]; rfl) ?_
        have ez : isNmD (.str z) = false := by
          show isNm z = false
          unfold isNm
          rw [decide_eq_false c8, Bool.and_false]
          rfl
        have h := q H (Same.refl _)
        rw [ez] at h
        exact h
    · have e1 : decide ((1 : Int) ≤ (z.length : Int)) = false := decide_eq_false (by omega)
      refine if_false_of e1 ?_
      have ez : isNmD (.str z) = false := by
        show isNm z = false
        unfold isNm
        rw [decide_eq_false c1]
        rfl
      have h := q H (Same.refl _)
      rw [ez] at h
      exact ⟨false, rfl, if_true_of rfl h⟩
end
end K09
namespace K09
open PySem PySem.Spec PyProof.Rows L2 Td
def isTup : PyData → Bool
  | .tuple _ => true
  | _ => false
theorem isTup_ex {d : PyData} (h : isTup d = true) : ∃ ds, d = .tuple ds := by
  cases d with
  | tuple ds => exact ⟨ds, rfl⟩
  | _ => cases h
theorem kit_tuple {K : PySem.W.Frag} (d : PyData) : PySem.W.kitOne K (.type (tyD d)) (.type "tuple") = some (isTup d) := by
  cases d with
  | none => show PySem.W.kitOne K (.type "NoneType") (.type "tuple") = some false; exact kit_ty (by decide +kernel)
  | bool b => show PySem.W.kitOne K (.type "bool") (.type "tuple") = some false; exact kit_ty (by decide +kernel)
  | int i => show PySem.W.kitOne K (.type "int") (.type "tuple") = some false; exact kit_ty (by decide +kernel)
  | str z => show PySem.W.kitOne K (.type "str") (.type "tuple") = some false; exact kit_ty (by decide +kernel)
  | list ds => show PySem.W.kitOne K (.type "list") (.type "tuple") = some false; exact kit_ty (by decide +kernel)
  | tuple ds => show PySem.W.kitOne K (.type "tuple") (.type "tuple") = some true; exact kit_ty (by decide +kernel)
  | dict kvs => show PySem.W.kitOne K (.type "dict") (.type "tuple") = some false; exact kit_ty (by decide +kernel)
theorem sm_pos {k : Nat} {d : PyData} (h : smB k d = true) : ∃ j, k = j + 1 := by
  cases k with
  | zero => simp [smB] at h
  | succ j => exact ⟨j, rfl⟩
theorem namesD_no {l m : Int} {d : PyData} (h : isTup d = false) : namesD l m d = false := by
  cases d with
  | tuple ds => cases h
  | _ => rfl
theorem pairsOk_no {m : Int} {ts : List Str} {d : PyData} (h : isTup d = false) : pairsOk m ts d = false := by
  cases d with
  | tuple ds => cases h
  | _ => rfl
theorem nodup_cnt (zs : List Str) : decide (V.int (TdSet.dcnt zs zs.length : Nat) = V.int (zs.length : Nat)) = decide zs.Nodup := by
  by_cases h : zs.Nodup
  · rw [TdSet.dcnt_nodup (Nat.le_refl _) (by rw [List.take_length]; exact h), decide_eq_true h]
    exact decide_eq_true rfl
  · rw [decide_eq_false h]
    refine decide_eq_false fun e => h ?_
    have e2 : TdSet.dcnt zs zs.length = zs.length := by injection e with e; omega
    have := TdSet.dcnt_full (Nat.le_refl _) e2
    rwa [List.take_length] at this
/-- the pair's name, in the heap -/
theorem pairNm_some {d : PyData} {z : Str} (h : pairNm d = some z) : ∃ r, d = .tuple [.str z, r] ∧ isNm z = true := by
  unfold pairNm at h
  split at h
  · rename_i y r
    split at h
    · rename_i hy
      cases h
      exact ⟨r, rfl, hy⟩
    · cases h
  · cases h
theorem pairNm_none {d : PyData} (h : pairNm d = none) : isTup d = false ∨ ∃ ds, d = .tuple ds ∧ (ds.length ≠ 2 ∨ ∃ n r, ds = [n, r] ∧ isNmD n = false) := by
  by_cases ht : isTup d = true
  · obtain ⟨ds, rfl⟩ := isTup_ex ht
    refine .inr ⟨ds, rfl, ?_⟩
    by_cases h2 : ds.length = 2
    · refine .inr ?_
      match ds, h2 with
      | [n, r], _ =>
        refine ⟨n, r, rfl, ?_⟩
        cases n with
        | str z =>
          unfold pairNm at h
          dsimp only at h
          split at h
          · cases h
          · rename_i hz
            show isNm z = false
            simpa using hz
        | _ => rfl
    · exact .inl h2
  · exact .inl (by simpa using ht)
section
variable {P : Program} {w : World} {K : PySem.W.Frag} {mg : Str → Option Value} {base : Heap}
theorem ok_are_namesD (T : Tops w K mg) (G_is_name : FnOk P w K mg base CX0 1 T.a_is_name T.d_is_name ["value"] (spIsNmD K)) :
    FnOk P w K mg base CX0 2 T.a_are_names T.d_are_names ["value", "least", "most"] (spNamesD K) := by
  refine T.F_are_names.ok sc_are_names (fun vs H Q E h => ?_) (fun cdv A outer s H vs Q E hr h => ?_)
  · obtain ⟨v, d, k, l, m, rfl, _⟩ := h
    rfl
  obtain ⟨v, d, k, l, m, rfl, hD, hsm, q⟩ := h
  refine ⟨_, (pss_cons (ps_if (PW.pt (pw_or (pt_not (pt_val (pe_callB call_isi rfl T.z_isinstance (by decide +kernel) (pa_cons (pv 0) (pa_cons (pe_bltn (v := .ty "tuple") rfl T.z_tuple (by decide +kernel) rfl) pa_nil))))) (pw_or1 (pt_not (pt_chain op_le op_le (pv 1) (pe_callB call_len rfl T.z_len PySem.boot_len (pa_cons (pv 0) pa_nil)) (pv 2)))))) (pss_one (ps_ret pe_bl)) pss_nil)
    (pss_one (ps_ret (pe_and (pe_callB (cr_all rfl) rfl T.z_all (by decide +kernel) (pa_cons (pe_lc (own := [("item", 3)]) (g := gName 3) (tt := tYes) rfl sc_are_names.nd (pi_tup (pv 0)) (blkOk_by (own := [("item", 3)]) (N := N_are_names) (sc := defScope s_are_names) (by decide +kernel)) (fun _ _ _ _ _ => (pg_name (i := 3) sc_are_names.nd rfl (Or.inl rfl))) (fun _ _ _ _ _ => pts_nil) (fun _ _ _ _ _ => (pe_call G_is_name (hr.mono (by omega)) rfl T.m_is_name T.F_is_name.kp T.b_is_name .nil pass0 (pa_cons (pv 3) pa_nil)))) pa_nil)) (pe_one (pe_cmpR op_eq (pe_lenSetT rfl rfl T.z_len rfl T.z_set (pv 0)) (pe_callB call_len rfl T.z_len PySem.boot_len (pa_cons (pv 0) pa_nil)) (nomark _))))))), ?_⟩
  refine ⟨_, rfl, v, .ty "tuple", .type (tyD d), .type "tuple", _, rfl, .ty _, ty_data hD, kit_tuple d, _, rfl, ?_⟩
  by_cases ht : isTup d = true
  · rw [ht]
    obtain ⟨ds, rfl⟩ := isTup_ex ht
    obtain ⟨j, rfl⟩ := sm_pos hsm
    obtain ⟨d100, dsm⟩ := sm_tup hsm
    obtain ⟨a, xs, rfl, hS, hA⟩ := Dp.tup_inv hD
    have xl := DpAll.length hA
    refine iteF ?_
    refine ⟨_, rfl, _, rfl, .ref a, _, rfl, .inr ⟨_, hS, rfl⟩, _, _, rfl, rfl, _, rfl, ?_⟩
    by_cases c1 : l ≤ (ds.length : Int)
    · have e1 : decide (l ≤ ((xs.length : Nat) : Int)) = true := decide_eq_true (by omega)
      refine if_true_of e1 ?_
      refine ⟨_, rfl, _, _, rfl, rfl, _, rfl, ?_⟩
      by_cases c2 : (ds.length : Int) ≤ m
      · have e2 : decide (((xs.length : Nat) : Int) ≤ m) = true := decide_eq_true (by omega)
        refine if_false_of (by rw [e2]; rfl) ?_
        refine ⟨_, rfl, a, rfl, ⟨_, hS⟩, fun D hD0 => lc_tup (K := K) (a := a) (xs := xs) (fun i H' => Same H H' ∧ H' D = some (.lst (((ds.take i).map isNmD).map V.bl)))
          ⟨Same.new hD0 _, upd_same⟩ (fun i H' _ ⟨hs, _⟩ => SqT.same hs hS) ?_ ?_⟩
        · rintro i x H' hx ⟨hs, hb⟩
          obtain ⟨d0, hd0, hx0⟩ := DpAll.get hA hx
          have hi : i < ds.length := (List.getElem?_eq_some_iff.mp hd0).1
          refine ⟨rfl, tYes_of ?_⟩
          refine ⟨_, rfl, x, d0, j, rfl, Dp.same hs hx0, dsm d0 (List.mem_of_getElem? hd0), fun H4 s4 => ⟨_, s4 _ _ hb, small1000 (by rw [List.length_map, List.length_map, List.length_take]; omega), own_same (hs.trans s4) hD0, ?_⟩⟩
          rw [upd_same, take_more hd0, List.map_append, List.map_append]
          rfl
        · rintro H' ⟨hs, hb⟩
          rw [xl, List.take_length] at hb
          have hS' := SqT.same hs hS
          have eal : ((ds.map isNmD).all id) = ds.all isNmD := by rw [List.all_map]; rfl
          refine ⟨D, _, rfl, SqL.of hb, _, rfl, ?_⟩
          by_cases c3 : ds.all isNmD = true
          · refine if_true_of (eal.trans c3) ?_
            have eds := strsOf_all ds c3
            have exs : xs = (strsOf ds).map V.str := DpAll.strs_inv (by rw [← eds]; exact hA)
            have el : (strsOf ds).length = ds.length := by have := congrArg List.length eds; rw [List.length_map] at this; exact this.symm
            rw [exs] at hS'
            refine ⟨_, rfl, a, strsOf ds, rfl, hS', by omega, _, rfl, .ref a, _, rfl, .inr ⟨_, hS', rfl⟩, rfl, ?_⟩
            rw [List.length_map, nodup_cnt]
            have h := q H' hs
            have e : namesD l m (.tuple ds) = decide (strsOf ds).Nodup := by
              show (decide (l ≤ (ds.length : Int)) && (decide ((ds.length : Int) ≤ m) && (ds.all isNmD && decide (strsOf ds).Nodup))) = _
              rw [decide_eq_true c1, decide_eq_true c2, c3]
              rfl
            rw [e] at h
            exact h
          · have c3' : ds.all isNmD = false := by simpa using c3
            refine if_false_of (eal.trans c3') ?_
            have h := q H' hs
            have e : namesD l m (.tuple ds) = false := by
              show (decide (l ≤ (ds.length : Int)) && (decide ((ds.length : Int) ≤ m) && (ds.all isNmD && decide (strsOf ds).Nodup))) = _
              rw [c3']
              simp
            rw [e] at h
            exact h
      · have e2 : decide (((xs.length : Nat) : Int) ≤ m) = false := decide_eq_false (by omega)
        refine if_true_of (by rw [e2]; rfl) ?_
        have h := q H (Same.refl _)
        have e : namesD l m (.tuple ds) = false := by
          show (decide (l ≤ (ds.length : Int)) && (decide ((ds.length : Int) ≤ m) && (ds.all isNmD && decide (strsOf ds).Nodup))) = _
          rw [decide_eq_false c2]
          simp
        rw [e] at h
        exact h
    · have e1 : decide (l ≤ ((xs.length : Nat) : Int)) = false := decide_eq_false (by omega)
      refine if_false_of e1 ?_
      have h := q H (Same.refl _)
      have e : namesD l m (.tuple ds) = false := by
        show (decide (l ≤ (ds.length : Int)) && (decide ((ds.length : Int) ≤ m) && (ds.all isNmD && decide (strsOf ds).Nodup))) = _
        rw [decide_eq_false c1]
        rfl
      rw [e] at h
      exact ⟨false, rfl, if_true_of rfl h⟩
  · have ht' : isTup d = false := by simpa using ht
    rw [ht']
    have h := q H (Same.refl _)
    rw [namesD_no ht'] at h
    exact iteT h
end
end K09
namespace K09
open PySem PySem.Spec PyProof.Rows L2 Td
/-! ### deeds, as data -/
def inStrs (ns : List Str) : PyData → Bool
  | .str z => decide (z ∈ ns)
  | _ => false
def isWriteD (p : PP) : PyData → Bool
  | .tuple [a, b] => inStrs p.sources a && inStrs p.words b
  | _ => false
def headStr : PyData → Str
  | .tuple (.str z :: _) => z
  | _ => Str.empty
def goBatch (p : PP) : List Str → List PyData → Bool
  | _, [] => true
  | seen, d :: ds => isWriteD p d && (!decide (headStr d ∈ seen) && goBatch p (seen ++ [headStr d]) ds)
def isBatchD (p : PP) : PyData → Bool
  | .tuple ds => !ds.isEmpty && goBatch p [] ds
  | _ => false
def isDeedD (p : PP) : PyData → Bool
  | .tuple (.str t :: x :: r) => if t = "write" then isWriteD p (.tuple (x :: r)) else if r.isEmpty = false then false else if t = "batch" then isBatchD p x else if t = "read" then inStrs p.cells x else false
  | _ => false
theorem eqv_strL (s : Str) (d : PyData) : PyData.eqv (.str s) d = (match d with | .str z => decide (s = z) | _ => false) := by
  cases d with
  | str z => simp only [PyData.eqv]; rfl
  | _ => simp only [PyData.eqv]
theorem eqv_strR (s : Str) (d : PyData) : PyData.eqv d (.str s) = (match d with | .str z => decide (z = s) | _ => false) := by
  cases d with
  | str z => simp only [PyData.eqv]; rfl
  | _ => simp only [PyData.eqv]
theorem any_strs (ns : List Str) (d : PyData) : ((ns.map PyData.str).any fun z => PyData.eqv z d) = inStrs ns d := by
  rw [List.any_map]
  cases d with
  | str z =>
    have e : (fun x : Str => PyData.eqv (.str x) (.str z)) = fun x => decide (x = z) := by funext x; exact eqv_strL x (.str z)
    show ns.any (fun x => PyData.eqv (.str x) (.str z)) = decide (z ∈ ns)
    rw [e]
    by_cases h : z ∈ ns
    · rw [decide_eq_true h]; exact List.any_eq_true.mpr ⟨z, h, decide_eq_true rfl⟩
    · rw [decide_eq_false h]; exact List.any_eq_false.mpr fun x hx hd => h (of_decide_eq_true hd ▸ hx)
  | _ =>
    show ns.any _ = false
    refine List.any_eq_false.mpr fun x _ => ?_
    simp [PyData.eqv]
theorem lay_strs {zs : List Str} (h : ∀ z ∈ zs, isNm z = true) : SeqAt.shaped (strsD zs) = true := by
  unfold SeqAt.shaped
  rw [Bool.and_eq_true]
  refine ⟨?_, decide_eq_true ?_⟩
  · unfold strsD; simp only [PyData.canLay0, strs_lay zs h]
  · have := strs_deep zs
    unfold strsD; simp only [PyData.depth]; omega
theorem shaped_sm {k : Nat} {d : PyData} (h : smB k d = true) (hk : k ≤ 60) : SeqAt.shaped d = true := by
  obtain ⟨h1, h2⟩ := sm_lay k d h
  unfold SeqAt.shaped
  rw [h1, Bool.true_and]
  exact decide_eq_true (by omega)
section
variable {p : PP} {m : Nat}
theorem O_words (ok : p.Ok m) : ∀ z ∈ p.words, isNm z = true := ok.wn.good
theorem O_sources (ok : p.Ok m) : ∀ z ∈ p.sources, isNm z = true := fun z hz => ok.nn.good z (List.mem_append_left _ (List.mem_append_left _ hz))
theorem O_cells (ok : p.Ok m) : ∀ z ∈ p.cells, isNm z = true := fun z hz => ok.nn.good z (List.mem_append_left _ hz)
end
def spIsWrite (K : PySem.W.Frag) (CP : Addr) : Sp := fun vs H Q _ => ∃ (pa : Addr) (v : V) (p : PP) (m : Nat) (d : PyData) (k : Nat), vs = [.ref pa, v] ∧ ProgAt K H CP pa p ∧ p.Ok m ∧ Dp K H v d ∧ smB k d = true ∧ k ≤ 50 ∧ ∀ H', Same H H' → Q (.bl (isWriteD p d)) H'
def spIsBatch (K : PySem.W.Frag) (CP : Addr) : Sp := fun vs H Q _ => ∃ (pa : Addr) (v : V) (p : PP) (m : Nat) (d : PyData) (k : Nat), vs = [.ref pa, v] ∧ ProgAt K H CP pa p ∧ p.Ok m ∧ Dp K H v d ∧ smB k d = true ∧ k ≤ 50 ∧ ∀ H', Same H H' → Q (.bl (isBatchD p d)) H'
def spIsDeed (K : PySem.W.Frag) (CP : Addr) : Sp := fun vs H Q _ => ∃ (pa : Addr) (v : V) (p : PP) (m : Nat) (d : PyData) (k : Nat), vs = [.ref pa, v] ∧ ProgAt K H CP pa p ∧ p.Ok m ∧ Dp K H v d ∧ smB k d = true ∧ k ≤ 50 ∧ ∀ H', Same H H' → Q (.bl (isDeedD p d)) H'
section
variable {P : Program} {w : World} {K : PySem.W.Frag} {mg : Str → Option Value} {base : Heap}
theorem ok_is_write (T : Tops w K mg) : FnOk P w K mg base CX0 1 T.a_is_write T.d_is_write ["program", "value"] (spIsWrite K T.c_Program) := by
  refine T.F_is_write.ok sc_is_write (fun vs H Q E h => ?_) (fun cdv A outer s H vs Q E hr h => ?_)
  · obtain ⟨pa, v, p, m, d, k, rfl, _⟩ := h
    rfl
  obtain ⟨pa, v, p, m, d, k, rfl, hP, ok, hD, hsm, hk, q⟩ := h
  obtain ⟨dx, aw, as, vd, ve, ⟨dn, en, e, hdn, hen⟩, h1, h2, h3, h4⟩ := hP.ex
  refine ⟨_, (pss_cons (ps_if (PW.pt (pw_or (pt_not (pt_val (pe_callB call_isi rfl T.z_isinstance (by decide +kernel) (pa_cons (pv 1) (pa_cons (pe_bltn (v := .ty "tuple") rfl T.z_tuple (by decide +kernel) rfl) pa_nil))))) (pw_or1 (pt_cmpR op_ne (pe_callB call_len rfl T.z_len PySem.boot_len (pa_cons (pv 1) pa_nil)) pe_int (nomark _))))) (pss_one (ps_ret pe_bl)) pss_nil)
    (pss_one (ps_ret (pe_and (pe_cmpR (op_inDT (units65 hr)) (pe_ix ix_tup (pv 1) pe_int (fun _ _ => rfl)) (pe_fld (pv 0) rfl) (by rfl)) (pe_one (pe_cmpR (op_inDT (units65 hr)) (pe_ix ix_tup (pv 1) pe_int (fun _ _ => rfl)) (pe_fld (pv 0) rfl) (by rfl))))))), ?_⟩
  refine ⟨_, rfl, v, .ty "tuple", .type (tyD d), .type "tuple", _, rfl, .ty _, ty_data hD, kit_tuple d, _, rfl, ?_⟩
  by_cases ht : isTup d = true
  · rw [ht]
    obtain ⟨ds, rfl⟩ := isTup_ex ht
    obtain ⟨j, rfl⟩ := sm_pos hsm
    obtain ⟨d100, dsm⟩ := sm_tup hsm
    obtain ⟨a, xs, rfl, hS, hA⟩ := Dp.tup_inv hD
    have xl := DpAll.length hA
    refine iteF ?_
    refine ⟨_, rfl, .ref a, _, rfl, .inr ⟨_, hS, rfl⟩, rfl, _, rfl, ?_⟩
    by_cases l2 : ds.length = 2
    · refine if_false_of (by rw [decide_eq_true (show V.int (xs.length : Nat) = .int 2 by congr 1; omega)]; rfl) ?_
      match ds, l2 with
      | [d1, d2], _ =>
        cases hA with
        | @cons x1 _ _ _ g1 t1 =>
          cases t1 with
          | @cons x2 _ _ _ g2 t2 =>
            cases t2
            have m1 := dsm d1 (by simp)
            have m2 := dsm d2 (by simp)
            refine ⟨_, rfl, a, _, 0, _, rfl, rfl, hS, rfl, _, rfl, pa, _, dx, _, _, rfl, e, T.l_Program, T.n_Program_sources, progF_sources .., d1, p.sources.map PyData.str, g1, .tup h2 (DpAll.strs _), shaped_sm m1 (by omega), lay_strs (O_sources ok), _, rfl, ?_⟩
            have ed : isWriteD p (.tuple [d1, d2]) = (inStrs p.sources d1 && inStrs p.words d2) := rfl
            rw [ed] at q
            show (if ((p.sources.map PyData.str).any fun z => PyData.eqv z d1) = true then _ else _)
            rw [any_strs]
            cases hb : inStrs p.sources d1 with
            | false => rw [hb] at q; exact iteF (q H (Same.refl _))
            | true =>
              rw [hb] at q
              refine iteT ?_
              refine ⟨_, rfl, a, _, 1, _, rfl, rfl, hS, rfl, _, rfl, pa, _, dx, _, _, rfl, e, T.l_Program, T.n_Program_words, progF_words .., d2, p.words.map PyData.str, g2, .tup h1 (DpAll.strs _), shaped_sm m2 (by omega), lay_strs (O_words ok), ?_⟩
              show Q (.bl ((p.words.map PyData.str).any fun z => PyData.eqv z d2)) H
              rw [any_strs]
              exact q H (Same.refl _)
    · refine if_true_of (by rw [decide_eq_false (show ¬ V.int (xs.length : Nat) = .int 2 from fun z => by injection z with z; omega)]; rfl) ?_
      have ed : isWriteD p (.tuple ds) = false := by
        unfold isWriteD
        split
        · rename_i e; cases e; exact absurd rfl l2
        · rfl
      rw [ed] at q
      exact q H (Same.refl _)
  · have ht' : isTup d = false := by simpa using ht
    rw [ht']
    have e : isWriteD p d = false := by
      cases d with
      | tuple ds => cases ht'
      | _ => rfl
    rw [e] at q
    exact iteT (q H (Same.refl _))
theorem ok_is_batch (T : Tops w K mg) (G_is_write : FnOk P w K mg base CX0 1 T.a_is_write T.d_is_write ["program", "value"] (spIsWrite K T.c_Program)) :
    FnOk P w K mg base CX0 2 T.a_is_batch T.d_is_batch ["program", "value"] (spIsBatch K T.c_Program) := by
  refine T.F_is_batch.ok sc_is_batch (fun vs H Q E h => ?_) (fun cdv A outer s H vs Q E hr h => ?_)
  · obtain ⟨pa, v, p, m, d, k, rfl, _⟩ := h
    rfl
  obtain ⟨pa, v, p, m, d, k, rfl, hP, ok, hD, hsm, hk, q⟩ := h
  refine ⟨_, (pss_cons (ps_if (PW.pt (pw_or (pt_not (pt_val (pe_callB call_isi rfl T.z_isinstance (by decide +kernel) (pa_cons (pv 1) (pa_cons (pe_bltn (v := .ty "tuple") rfl T.z_tuple (by decide +kernel) rfl) pa_nil))))) (pw_or1 (pt_cmpR op_eq (pe_callB call_len rfl T.z_len PySem.boot_len (pa_cons (pv 1) pa_nil)) pe_int (nomark _))))) (pss_one (ps_ret pe_bl)) pss_nil)
    (pss_cons (ps_set (i := 2) sc_is_batch.nd rfl (Or.inl rfl) (pe_lst pa_nil))
    (pss_cons (ps_for PassesOwn.never rfl (pi_tup (pv 1)) (pg_name (i := 3) sc_is_batch.nd rfl (Or.inl rfl)) (pss_cons (ps_if (PW.pt (pw_or (pt_not (pt_val (pe_call G_is_write (hr.mono (by omega)) rfl T.m_is_write T.F_is_write.kp T.b_is_write .nil pass0 (pa_cons (pv 0) (pa_cons (pv 3) pa_nil))))) (pw_or1 (pt_cmpR op_in_seq (pe_ix ix_tup (pv 3) pe_int (fun _ _ => rfl)) (pv 2) (by rfl))))) (pss_one (ps_ret pe_bl)) pss_nil)
    (pss_one (ps_expr (pe_bm PySem.F.plainAttrs_list PySem.F.slot_list_append PySem.F.type_list_append mt_append (pv 2) (pa_cons (pe_ix ix_tup (pv 3) pe_int (fun _ _ => rfl)) pa_nil))))))
    (pss_one (ps_ret pe_bl))))), ?_⟩
  refine ⟨_, rfl, v, .ty "tuple", .type (tyD d), .type "tuple", _, rfl, .ty _, ty_data hD, kit_tuple d, _, rfl, ?_⟩
  by_cases ht : isTup d = true
  · rw [ht]
    obtain ⟨ds, rfl⟩ := isTup_ex ht
    obtain ⟨j, rfl⟩ := sm_pos hsm
    obtain ⟨d100, dsm⟩ := sm_tup hsm
    obtain ⟨a, xs, rfl, hS, hA⟩ := Dp.tup_inv hD
    have xl := DpAll.length hA
    refine iteF ?_
    refine ⟨_, rfl, .ref a, _, rfl, .inr ⟨_, hS, rfl⟩, rfl, _, rfl, ?_⟩
    by_cases l0 : ds = []
    · subst l0
      refine if_true_of (by rw [xl]; rfl) ?_
      exact q H (Same.refl _)
    · have lp : 0 < ds.length := List.length_pos_iff.mpr l0
      refine if_false_of (by rw [decide_eq_false (show ¬ V.int (xs.length : Nat) = .int 0 from fun z => by injection z with z; omega)]) ?_
      have eB : isBatchD p (.tuple ds) = goBatch p [] ds := by
        cases ds with
        | nil => exact absurd rfl l0
        | cons x l => rfl
      rw [eB] at q
      refine ⟨by show 0 ≤ sizeLine; decide, fun b hb => ?_⟩
      have s1 := Same.new hb (.lst [])
      refine ⟨_, rfl, a, rfl, ⟨_, SqT.same s1 hS⟩, for_tup (K := K) (a := a) (xs := xs) (fun i σ H' => ∃ (seen : List Str) (v3 : Option V), σ = [some (.ref pa), some (.ref a), some (.ref b), v3] ∧ Same H H' ∧ H' b = some (.lst (seen.map V.str)) ∧ seen.length = i ∧ goBatch p [] ds = goBatch p seen (ds.drop i))
        ⟨[], none, rfl, s1, upd_same, rfl, rfl⟩ (fun i σ H' _ ⟨_, _, _, hs, _⟩ => SqT.same hs hS) ?_ ?_⟩
      · rintro i x σ H1 hi ⟨seen, v3, rfl, hs, hl, sl, eg⟩
        obtain ⟨d0, hd0, hx0⟩ := DpAll.get hA hi
        have hid : i < ds.length := (List.getElem?_eq_some_iff.mp hd0).1
        have m0 := dsm d0 (List.mem_of_getElem? hd0)
        have e1 : ds.drop i = d0 :: ds.drop (i + 1) := by
          rw [List.drop_eq_getElem_cons hid]
          rw [List.getElem?_eq_getElem hid] at hd0
          cases hd0
          rfl
        rw [e1] at eg
        have eg2 : goBatch p seen (d0 :: ds.drop (i + 1)) = (isWriteD p d0 && (!decide (headStr d0 ∈ seen) && goBatch p (seen ++ [headStr d0]) (ds.drop (i + 1)))) := rfl
        rw [eg2] at eg
        refine ⟨_, rfl, _, rfl, pa, x, p, m, d0, j, rfl, hP.same hs, ok, Dp.same hs hx0, m0, by omega, fun H2 s2 => ⟨_, rfl, ?_⟩⟩
        have hs2 := hs.trans s2
        have hl2 := s2 _ _ hl
        cases hw : isWriteD p d0 with
        | false =>
          rw [hw] at eg
          refine if_true_of rfl (if_true_of rfl ?_)
          rw [eg] at q
          exact q H2 hs2
        | true =>
          rw [hw, Bool.true_and] at eg
          refine if_false_of rfl ?_
          obtain ⟨z1, z2, rfl, z1m, z2m⟩ : ∃ z1 z2, d0 = .tuple [.str z1, .str z2] ∧ z1 ∈ p.sources ∧ z2 ∈ p.words := by
            unfold isWriteD at hw
            split at hw
            · rename_i c1 c2
              rw [Bool.and_eq_true] at hw
              obtain ⟨w1, w2⟩ := hw
              unfold inStrs at w1 w2
              split at w1
              · split at w2
                · exact ⟨_, _, rfl, of_decide_eq_true w1, of_decide_eq_true w2⟩
                · cases w2
              · cases w1
            · cases hw
          obtain ⟨b2, es, rfl, hB2, hE2⟩ := Dp.tup_inv (Dp.same hs2 hx0)
          obtain ⟨vw, rfl⟩ : ∃ vw, es = [.str z1, vw] := by
            cases hE2 with
            | cons a1 a2 =>
              cases a1
              cases a2 with
              | cons a3 a4 => cases a4; exact ⟨_, rfl⟩
          have eh : headStr (.tuple [.str z1, .str z2]) = z1 := rfl
          rw [eh] at eg
          refine ⟨_, rfl, b2, _, 0, _, rfl, rfl, hB2, rfl, _, rfl, b, _, rfl, .inl (SqL.of hl2), rfl, L2.flat_strs _, _, rfl, ?_⟩
          by_cases hin : z1 ∈ seen
          · rw [decide_eq_true hin] at eg
            refine if_true_of (by show inV (.str z1) (seen.map V.str) = true; rw [inV_strs, decide_eq_true hin]) ?_
            have eg' : goBatch p [] ds = false := eg
            rw [eg'] at q
            exact q H2 hs2
          · rw [decide_eq_false hin] at eg
            refine if_false_of (by show inV (.str z1) (seen.map V.str) = false; rw [inV_strs, decide_eq_false hin]) ?_
            have eg' : goBatch p [] ds = goBatch p (seen ++ [z1]) (ds.drop (i + 1)) := eg
            refine ⟨_, rfl, .inl ⟨rfl, _, SqL.of hl2⟩, _, rfl, b2, _, 0, _, rfl, rfl, hB2, rfl, b, _, _, rfl, rfl, hl2, small1000 (by rw [List.length_map]; omega), ?_⟩
            exact ⟨seen ++ [z1], _, rfl, Same.own hs2 hb, by rw [upd_same, List.map_append]; rfl, by rw [List.length_append, sl]; rfl, eg'⟩
      · rintro σ H1 ⟨seen, v3, rfl, hs, hl, sl, eg⟩
        rw [xl, List.drop_length] at eg
        have eg' : goBatch p [] ds = true := eg
        rw [eg'] at q
        exact q H1 hs
  · have ht' : isTup d = false := by simpa using ht
    rw [ht']
    have e : isBatchD p d = false := by
      cases d with
      | tuple ds => cases ht'
      | _ => rfl
    rw [e] at q
    exact iteT (q H (Same.refl _))
end
end K09
namespace K09
open PySem PySem.Spec PyProof.Rows L2 Td
theorem kit_str {K : PySem.W.Frag} (d : PyData) : PySem.W.kitOne K (.type (tyD d)) (.type "str") = some (strOf d).isSome := by
  cases d with
  | none => show PySem.W.kitOne K (.type "NoneType") (.type "str") = some false; exact kit_ty (by decide +kernel)
  | bool b => show PySem.W.kitOne K (.type "bool") (.type "str") = some false; exact kit_ty (by decide +kernel)
  | int i => show PySem.W.kitOne K (.type "int") (.type "str") = some false; exact kit_ty (by decide +kernel)
  | str z => show PySem.W.kitOne K (.type "str") (.type "str") = some true; exact kit_ty (by decide +kernel)
  | list ds => show PySem.W.kitOne K (.type "list") (.type "str") = some false; exact kit_ty (by decide +kernel)
  | tuple ds => show PySem.W.kitOne K (.type "tuple") (.type "str") = some false; exact kit_ty (by decide +kernel)
  | dict kvs => show PySem.W.kitOne K (.type "dict") (.type "str") = some false; exact kit_ty (by decide +kernel)
theorem sm_of_tup {k : Nat} {ds : List PyData} (hl : ds.length ≤ 100) (h : ∀ x ∈ ds, smB k x = true) : smB (k + 1) (.tuple ds) = true := by
  simp only [smB, Bool.and_eq_true, List.all_eq_true, decide_eq_true_eq]
  exact ⟨hl, h⟩
theorem sl_all {K : PySem.W.Frag} {H : Hp} {a : Addr} {xs : List V} {lo hi : Option Int} {Q : VK} (hA : SqT K H a xs) (k : ∀ (p : Addr) H', Same H H' → SqT K H' p (cutV xs lo hi) → Q (.ref p) H') : rSlA K (.ref a) lo hi H Q := by
  refine ⟨a, xs, rfl, hA, fun h => k a H (Same.refl _) ?_, fun _ p hp => k p _ (Same.new hp _) (SqT.of upd_same)⟩
  unfold cutV
  rw [h.1, h.2, List.drop_zero, Nat.sub_zero, List.take_length]
  exact hA
theorem cut_from (xs : List V) (k : Nat) : cutV xs (some (k : Int)) none = xs.drop k := by
  unfold cutV
  rw [HT.sIx_none, HT.sIx_nat]
  by_cases h : k ≤ xs.length
  · rw [Nat.min_eq_left h]
    exact List.take_of_length_le (by rw [List.length_drop]; omega)
  · rw [Nat.min_eq_right (by omega), Nat.sub_self, List.take_zero, List.drop_of_length_le (by omega)]
theorem parts_at {K : PySem.W.Frag} {H : Hp} {v : V} {p : PP} (h : Tn K H v p.data) : ∃ (pa aw as : Addr) (vd ve : V), v = .ref pa ∧ SqT K H pa [.ref aw, .ref as, vd, ve] ∧ SqT K H aw (p.words.map V.str) ∧ SqT K H as (p.sources.map V.str) ∧ Tn K H vd (pairsD p.derived) ∧ Tn K H ve (pairsD p.effects) := by
  obtain ⟨pa, xs, rfl, hS, hT⟩ := Tn.tup_inv h
  cases hT with
  | cons c1 t1 =>
    cases t1 with
    | cons c2 t2 =>
      cases t2 with
      | cons c3 t3 =>
        cases t3 with
        | cons c4 t4 =>
          cases t4
          obtain ⟨aw, ws, rfl, hw, hw2⟩ := Tn.tup_inv c1
          obtain ⟨as, ss, rfl, hs, hs2⟩ := Tn.tup_inv c2
          have e1 := hw2.strs_inv
          have e2 := hs2.strs_inv
          subst e1 e2
          exact ⟨pa, aw, as, _, _, rfl, hS, hw, hs, c3, c4⟩
theorem all_cons {K : PySem.W.Frag} {H : Hp} {xs : List V} {d : PyData} {ds : List PyData} (h : DpAll K H xs (d :: ds)) : ∃ x r, xs = x :: r ∧ Dp K H x d ∧ DpAll K H r ds := by
  cases h with
  | cons a b => exact ⟨_, _, rfl, a, b⟩
theorem deed_eq (p : PP) (d0 d1 : PyData) (r : List PyData) : isDeedD p (.tuple (d0 :: d1 :: r)) = if PyData.eqv d0 (.str "write") = true then isWriteD p (.tuple (d1 :: r)) else if r.isEmpty = false then false else if PyData.eqv d0 (.str "batch") = true then isBatchD p d1 else if PyData.eqv d0 (.str "read") = true then inStrs p.cells d1 else false := by
  rw [eqv_strR, eqv_strR, eqv_strR]
  cases d0 with
  | str z => simp only [isDeedD, decide_eq_true_eq]
  | _ => simp [isDeedD]
theorem deed_short {p : PP} {ds : List PyData} (h : ds.length < 2) : isDeedD p (.tuple ds) = false := by
  match ds, h with
  | [], _ => rfl
  | [d0], _ => cases d0 <;> rfl
theorem shaped_lit {z : Str} (h : PyData.strOk z = true) : SeqAt.shaped (.str z) = true := by
  unfold SeqAt.shaped
  rw [Bool.and_eq_true]
  exact ⟨by simp only [PyData.canLay0, h], decide_eq_true (by simp only [PyData.depth]; decide)⟩
theorem same_all {K : PySem.W.Frag} {H H' : Hp} (s : Same H H') : ∀ {xs : List V} {ds : List PyData}, DpAll K H xs ds → DpAll K H' xs ds
  | _, _, .nil => .nil
  | _, _, .cons a b => .cons (Dp.same s a) (same_all s b)
def spCells (K : PySem.W.Frag) (CP : Addr) : Sp := fun vs H Q _ => ∃ (pa : Addr) (p : PP) (m : Nat), vs = [.ref pa] ∧ ProgAt K H CP pa p ∧ p.Ok m ∧
  ∀ t H', Same H H' → SqT K H' t (p.cells.map V.str) → Q (.ref t) H'
def spDeedX (K : PySem.W.Frag) (CP : Addr) : Sp := fun vs H Q E => spIsDeed K CP vs H Q E ∨ ∃ (pa : Addr) (v : V), vs = [.ref pa, v] ∧ TyX K H v (.type "dict") ∧ ∀ H', Same H H' → Q (.bl false) H'
section
variable {P : Program} {w : World} {K : PySem.W.Frag} {mg : Str → Option Value} {base : Heap}
theorem ok_cells (T : Tops w K mg) :
    FnOk P w K mg base CX0 2 T.a_Program_cells T.d_Program_cells ["self"] (spCells K T.c_Program) := by
  refine T.F_Program_cells.ok sc_Program_cells (fun vs H Q E h => ?_) (fun cdv A outer s H vs Q E hr h => ?_)
  · obtain ⟨pa, p, m, rfl, _⟩ := h
    rfl
  obtain ⟨pa, p, m, rfl, hP, ok, q⟩ := h
  obtain ⟨dx, aw, as, vd, ve, ⟨dn, en, e, hdn, hen⟩, h1, h2, h3, h4⟩ := hP.ex
  have d6 := ok.d6
  have s4 := ok.s4
  refine ⟨_, (pss_one (ps_ret (pe_op op_catA (pe_fld (pv 0) rfl) (pe_fld (pv 0) rfl)))), ?_⟩
  refine ⟨_, rfl, pa, _, dx, _, _, rfl, e, T.l_Program, T.n_Program_sources, progF_sources .., _, rfl, pa, _, dx, _, _, rfl, e, T.l_Program, T.n_Program__derived_names, progF_dn .., ?_⟩
  refine cat_all h2 hdn (Nat.le_of_lt (small1000 (by rw [List.length_map, List.length_map]; omega))) (fun c H2 t2 hc => q c H2 t2 ?_)
  unfold PP.cells
  rw [List.map_append, List.map_map]
  exact hc
theorem ok_is_deed (T : Tops w K mg) (G_is_write : FnOk P w K mg base CX0 1 T.a_is_write T.d_is_write ["program", "value"] (spIsWrite K T.c_Program))
    (G_is_batch : FnOk P w K mg base CX0 2 T.a_is_batch T.d_is_batch ["program", "value"] (spIsBatch K T.c_Program))
    (G_Program_cells : FnOk P w K mg base CX0 2 T.a_Program_cells T.d_Program_cells ["self"] (spCells K T.c_Program)) :
    FnOk P w K mg base CX0 3 T.a_is_deed T.d_is_deed ["program", "value"] (spDeedX K T.c_Program) := by
  refine T.F_is_deed.ok sc_is_deed (fun vs H Q E h => ?_) (fun cdv A outer s H vs Q E hr h => ?_)
  · rcases h with ⟨pa, v, p, m, d, k, rfl, _⟩ | ⟨pa, v, rfl, _⟩ <;> rfl
  refine ⟨_, (pss_cons (ps_if (PW.pt (pw_or (pt_not (pt_val (pe_callB call_isi rfl T.z_isinstance (by decide +kernel) (pa_cons (pv 1) (pa_cons (pe_bltn (v := .ty "tuple") rfl T.z_tuple (by decide +kernel) rfl) pa_nil))))) (pw_or1 (pt_cmpR op_lt (pe_callB call_len rfl T.z_len PySem.boot_len (pa_cons (pv 1) pa_nil)) pe_int (nomark _))))) (pss_one (ps_ret pe_bl)) pss_nil)
    (pss_cons (ps_if (pt_cmpR (op_eqD hr.units) (pe_ix ix_tup (pv 1) pe_int (fun _ _ => rfl)) pe_str (nomark _)) (pss_one (ps_ret (pe_call G_is_write (hr.mono (by omega)) rfl T.m_is_write T.F_is_write.kp T.b_is_write .nil pass0 (pa_cons (pv 0) (pa_cons (pe_slice sl_tupA (pv 1) (po_some pe_int) po_none) pa_nil))))) pss_nil)
    (pss_cons (ps_if (pt_cmpR op_ne (pe_callB call_len rfl T.z_len PySem.boot_len (pa_cons (pv 1) pa_nil)) pe_int (nomark _)) (pss_one (ps_ret pe_bl)) pss_nil)
    (pss_cons (ps_if (pt_cmpR (op_eqD hr.units) (pe_ix ix_tup (pv 1) pe_int (fun _ _ => rfl)) pe_str (nomark _)) (pss_one (ps_ret (pe_call G_is_batch (hr.mono (by omega)) rfl T.m_is_batch T.F_is_batch.kp T.b_is_batch .nil pass0 (pa_cons (pv 0) (pa_cons (pe_ix ix_tup (pv 1) pe_int (fun _ _ => rfl)) pa_nil))))) pss_nil)
    (pss_one (ps_ret (pe_and (pe_cmpR (op_eqD hr.units) (pe_ix ix_tup (pv 1) pe_int (fun _ _ => rfl)) pe_str (nomark _)) (pe_one (pe_cmpR (op_inDT (units65 hr)) (pe_ix ix_tup (pv 1) pe_int (fun _ _ => rfl)) (pe_meth0 (pv 0) T.l_Program T.t_Program_cells G_Program_cells (hr.mono (by omega)) T.b_Program_cells .nil pass0) (by rfl)))))))))), ?_⟩
  rcases h with ⟨pa, v, p, m, d, k, rfl, hP, ok, hD, hsm, hk, q⟩ | ⟨pa, v, rfl, hT, q⟩
  · refine ⟨_, rfl, v, .ty "tuple", .type (tyD d), .type "tuple", _, rfl, .ty _, ty_data hD, kit_tuple d, _, rfl, ?_⟩
    by_cases ht : isTup d = true
    · rw [ht]
      obtain ⟨ds, rfl⟩ := isTup_ex ht
      obtain ⟨j, rfl⟩ := sm_pos hsm
      obtain ⟨d100, dsm⟩ := sm_tup hsm
      obtain ⟨a, xs, rfl, hS, hA⟩ := Dp.tup_inv hD
      have xl := DpAll.length hA
      refine iteF ?_
      refine ⟨_, rfl, .ref a, _, rfl, .inr ⟨_, hS, rfl⟩, _, _, rfl, rfl, _, rfl, ?_⟩
      by_cases l2 : ds.length < 2
      · refine if_true_of (decide_eq_true (by omega)) ?_
        rw [deed_short l2] at q
        exact q H (Same.refl _)
      refine if_false_of (decide_eq_false (by omega)) ?_
      match ds, l2 with
      | d0 :: d1 :: r, _ =>
        have hA' := hA
        obtain ⟨x0, xs1, rfl, g0, t0⟩ := all_cons hA
        obtain ⟨x1, xr, rfl, g1, t1⟩ := all_cons t0
        rw [deed_eq] at q
        have m0 := dsm d0 (by simp)
        have m1 := dsm d1 (by simp)
        refine ⟨_, rfl, a, _, 0, _, rfl, rfl, hS, atI_nat (j := 0) rfl, d0, .str "write", g0, .str _, shaped_sm m0 (by omega), shaped_lit (by decide +kernel), _, rfl, ?_⟩
        cases e0 : PyData.eqv d0 (.str "write") with
        | true =>
          rw [e0] at q
          refine if_true_of rfl ?_
          refine ⟨_, rfl, _, rfl, 1, rfl, ?_⟩
          try dsimp only [tNoPart]
          refine sl_all hS fun p1 H1 s1 h1 => ?_
          have h1' : SqT K H1 p1 ((x0 :: x1 :: xr).drop 1) := by rw [← cut_from _ 1]; exact h1
          refine ⟨pa, .ref p1, p, m, .tuple (d1 :: r), j + 1, rfl, hP.same s1, ok, .tup h1' (.cons (Dp.same s1 g1) (same_all s1 t1)), ?_, by omega, fun H2 s2 => q H2 (s1.trans s2)⟩
          exact sm_of_tup (by simp at d100 ⊢; omega) fun x hx => dsm x (List.mem_cons_of_mem _ hx)
        | false =>
          rw [e0] at q
          refine if_false_of rfl ?_
          refine ⟨_, rfl, .ref a, _, rfl, .inr ⟨_, hS, rfl⟩, rfl, _, rfl, ?_⟩
          by_cases l3 : r = []
          · subst l3
            cases t1
            refine if_false_of (by rfl) ?_
            refine ⟨_, rfl, a, _, 0, _, rfl, rfl, hS, rfl, d0, .str "batch", g0, .str _, shaped_sm m0 (by omega), shaped_lit (by decide +kernel), _, rfl, ?_⟩
            cases e1 : PyData.eqv d0 (.str "batch") with
            | true =>
              rw [e1] at q
              refine if_true_of rfl ?_
              exact ⟨_, rfl, _, rfl, a, _, 1, _, rfl, rfl, hS, rfl, pa, x1, p, m, d1, j, rfl, hP, ok, g1, m1, by omega, fun H2 s2 => q H2 s2⟩
            | false =>
              rw [e1] at q
              refine if_false_of rfl ?_
              refine ⟨_, rfl, a, _, 0, _, rfl, rfl, hS, rfl, d0, .str "read", g0, .str _, shaped_sm m0 (by omega), shaped_lit (by decide +kernel), _, rfl, ?_⟩
              cases e2 : PyData.eqv d0 (.str "read") with
              | false => rw [e2] at q; exact if_false_of rfl (q H (Same.refl _))
              | true =>
                rw [e2] at q
                refine if_true_of rfl ?_
                obtain ⟨dx, _, _, _, _, ⟨_, _, e, _, _⟩, _⟩ := hP.ex
                refine ⟨_, rfl, a, _, 1, _, rfl, rfl, hS, rfl, _, rfl, pa, dx, _, rfl, e, by kernel_rfl, pa, p, m, rfl, hP, ok, fun t H1 s1 ht => ?_⟩
                refine ⟨d1, p.cells.map PyData.str, Dp.same s1 g1, .tup ht (DpAll.strs _), shaped_sm m1 (by omega), lay_strs (O_cells ok), ?_⟩
                show Q (.bl ((p.cells.map PyData.str).any fun z => PyData.eqv z d1)) H1
                rw [any_strs]
                exact q H1 s1
          · have rl : 0 < r.length := List.length_pos_iff.mpr l3
            have xrl : xr.length = r.length := DpAll.length t1
            have e3 : r.isEmpty = false := by cases r with | nil => exact absurd rfl l3 | cons _ _ => rfl
            rw [e3] at q
            refine if_true_of (by rw [decide_eq_false (show ¬ V.int ((x0 :: x1 :: xr).length : Nat) = .int 2 from fun z => by injection z with z; simp at z; omega)]; rfl) ?_
            exact q H (Same.refl _)
      | [], h => exact absurd (by simp) h
      | [_], h => exact absurd (by simp) h
    · have ht' : isTup d = false := by simpa using ht
      rw [ht']
      have e : isDeedD p d = false := by
        cases d with
        | tuple ds => cases ht'
        | _ => rfl
      rw [e] at q
      exact iteT (q H (Same.refl _))
  · refine ⟨_, rfl, v, .ty "tuple", .type "dict", .type "tuple", false, rfl, .ty _, hT, kit_ty (by decide +kernel), _, rfl, ?_⟩
    exact iteT (q H (Same.refl _))
def spLawPair (K : PySem.W.Frag) : Sp := fun vs H Q _ => ∃ (u v : V) (p : PP) (m : Nat) (d : PyData) (k : Nat), vs = [u, v] ∧ Tn K H u p.data ∧ p.Ok m ∧ Dp K H v d ∧ smB k d = true ∧ k ≤ 50 ∧ ∀ H', Same H H' → Q (.bl (isWriteD p d)) H'
def spLawGood (K : PySem.W.Frag) : Sp := fun vs H Q _ => ∃ (u v : V) (p : PP) (m : Nat), vs = [u, v] ∧ Tn K H u p.data ∧ p.Ok m ∧ ((∃ (d : PyData) (k : Nat), Dp K H v d ∧ smB k d = true ∧ k ≤ 50 ∧ ∀ H', Same H H' → Q (.bl (isDeedD p d)) H') ∨ (TyX K H v (.type "dict") ∧ ∀ H', Same H H' → Q (.bl false) H'))
theorem ok_law_pair (T : Tops w K mg) : FnOk P w K mg base CX0 1 T.a__law_pair T.d__law_pair ["_law_parts_here", "_law_value"] (spLawPair K) := by
  refine T.F__law_pair.ok sc_law_pair (fun vs H Q E h => ?_) (fun cdv A outer s H vs Q E hr h => ?_)
  · obtain ⟨u, v, p, m, d, k, rfl, _⟩ := h
    rfl
  obtain ⟨u, v, p, m, d, k, rfl, hT, ok, hD, hsm, hk, q⟩ := h
  obtain ⟨pa, aw, as, vd, ve, rfl, hP, h1, h2, h3, h4⟩ := parts_at hT
  refine ⟨_, (pss_cons (ps_if (PW.pt (pw_or (pt_not (pt_val (pe_callB call_isi rfl T.z_isinstance (by decide +kernel) (pa_cons (pv 1) (pa_cons (pe_bltn (v := .ty "tuple") rfl T.z_tuple (by decide +kernel) rfl) pa_nil))))) (pw_or (pt_cmpR op_ne (pe_callB call_len rfl T.z_len PySem.boot_len (pa_cons (pv 1) pa_nil)) pe_int (nomark _)) (pw_or1 (pt_not (pt_val (pe_callB call_isi rfl T.z_isinstance (by decide +kernel) (pa_cons (pe_ix ix_tup (pv 1) pe_int (fun _ _ => rfl)) (pa_cons (pe_bltn (v := .ty "str") rfl T.z_str (by decide +kernel) rfl) pa_nil))))))))) (pss_one (ps_ret pe_bl)) pss_nil)
    (pss_one (ps_ret (pe_and (pe_cmpR (op_inDT (units65 hr)) (pe_ix ix_tup (pv 1) pe_int (fun _ _ => rfl)) (pe_ix ix_tup (pv 0) pe_int (fun _ _ => rfl)) (by rfl)) (pe_and (pe_callB call_isi rfl T.z_isinstance (by decide +kernel) (pa_cons (pe_ix ix_tup (pv 1) pe_int (fun _ _ => rfl)) (pa_cons (pe_bltn (v := .ty "str") rfl T.z_str (by decide +kernel) rfl) pa_nil))) (pe_one (pe_cmpR (op_inDT (units65 hr)) (pe_ix ix_tup (pv 1) pe_int (fun _ _ => rfl)) (pe_ix ix_tup (pv 0) pe_int (fun _ _ => rfl)) (by rfl)))))))), ?_⟩
  refine ⟨_, rfl, v, .ty "tuple", .type (tyD d), .type "tuple", _, rfl, .ty _, ty_data hD, kit_tuple d, _, rfl, ?_⟩
  by_cases ht : isTup d = true
  · rw [ht]
    obtain ⟨ds, rfl⟩ := isTup_ex ht
    obtain ⟨j, rfl⟩ := sm_pos hsm
    obtain ⟨d100, dsm⟩ := sm_tup hsm
    obtain ⟨a, xs, rfl, hS, hA⟩ := Dp.tup_inv hD
    have xl := DpAll.length hA
    refine iteF ?_
    refine ⟨_, rfl, .ref a, _, rfl, .inr ⟨_, hS, rfl⟩, rfl, _, rfl, ?_⟩
    by_cases l2 : ds.length = 2
    · refine if_false_of (by rw [decide_eq_true (show V.int (xs.length : Nat) = .int 2 by congr 1; omega)]; rfl) ?_
      match ds, l2 with
      | [d1, d2], _ =>
        cases hA with
        | @cons x1 _ _ _ g1 t1 =>
          cases t1 with
          | @cons x2 _ _ _ g2 t2 =>
            cases t2
            have m1 := dsm d1 (by simp)
            have m2 := dsm d2 (by simp)
            have ed : isWriteD p (.tuple [d1, d2]) = (inStrs p.sources d1 && inStrs p.words d2) := rfl
            rw [ed] at q
            refine ⟨_, rfl, a, _, 0, _, rfl, rfl, hS, rfl, x1, .ty "str", .type (tyD d1), .type "str", _, rfl, .ty _, ty_data g1, kit_str d1, _, rfl, ?_⟩
            cases hs1 : strOf d1 with
            | none =>
              have e1 : inStrs p.sources d1 = false := by cases d1 with | str z => cases hs1 | _ => rfl
              rw [e1] at q
              exact if_true_of rfl (q H (Same.refl _))
            | some z1 =>
            refine if_false_of rfl ?_
            refine ⟨_, rfl, a, _, 0, _, rfl, rfl, hS, rfl, _, rfl, pa, _, 1, _, rfl, rfl, hP, rfl, d1, p.sources.map PyData.str, g1, .tup h2 (DpAll.strs _), shaped_sm m1 (by omega), lay_strs (O_sources ok), _, rfl, ?_⟩
            show (if ((p.sources.map PyData.str).any fun z => PyData.eqv z d1) = true then _ else _)
            rw [any_strs]
            cases hb : inStrs p.sources d1 with
            | false => rw [hb] at q; exact iteF (q H (Same.refl _))
            | true =>
              rw [hb] at q
              refine iteT ?_
              refine ⟨_, rfl, a, _, 1, _, rfl, rfl, hS, rfl, x2, .ty "str", .type (tyD d2), .type "str", _, rfl, .ty _, ty_data g2, kit_str d2, _, rfl, ?_⟩
              cases hs2 : strOf d2 with
              | none =>
                have e2 : inStrs p.words d2 = false := by cases d2 with | str z => cases hs2 | _ => rfl
                rw [e2] at q
                exact if_false_of rfl (q H (Same.refl _))
              | some z2 =>
              refine if_true_of rfl ?_
              refine ⟨_, rfl, a, _, 1, _, rfl, rfl, hS, rfl, _, rfl, pa, _, 0, _, rfl, rfl, hP, rfl, d2, p.words.map PyData.str, g2, .tup h1 (DpAll.strs _), shaped_sm m2 (by omega), lay_strs (O_words ok), ?_⟩
              show Q (.bl ((p.words.map PyData.str).any fun z => PyData.eqv z d2)) H
              rw [any_strs]
              exact q H (Same.refl _)
    · refine if_true_of (by rw [decide_eq_false (show ¬ V.int (xs.length : Nat) = .int 2 from fun z => by injection z with z; omega)]; rfl) ?_
      have ed : isWriteD p (.tuple ds) = false := by
        unfold isWriteD
        split
        · rename_i e; cases e; exact absurd rfl l2
        · rfl
      rw [ed] at q
      exact if_true_of rfl (q H (Same.refl _))
  · have ht' : isTup d = false := by simpa using ht
    rw [ht']
    have e : isWriteD p d = false := by
      cases d with
      | tuple ds => cases ht'
      | _ => rfl
    rw [e] at q
    exact iteT (q H (Same.refl _))
end
end K09
namespace K09
open PySem PySem.Spec PyProof.Rows L2 Td
theorem write_of {p : PP} {d0 : PyData} (hw : isWriteD p d0 = true) : ∃ z1 z2, d0 = .tuple [.str z1, .str z2] ∧ z1 ∈ p.sources ∧ z2 ∈ p.words := by
  unfold isWriteD at hw
  split at hw
  · rename_i c1 c2
    rw [Bool.and_eq_true] at hw
    obtain ⟨w1, w2⟩ := hw
    unfold inStrs at w1 w2
    split at w1
    · split at w2
      · exact ⟨_, _, rfl, of_decide_eq_true w1, of_decide_eq_true w2⟩
      · cases w2
    · cases w1
  · cases hw
section
variable {P : Program} {w : World} {K : PySem.W.Frag} {mg : Str → Option Value} {base : Heap}
theorem ok_law_good (T : Tops w K mg) (G__law_pair : FnOk P w K mg base CX0 1 T.a__law_pair T.d__law_pair ["_law_parts_here", "_law_value"] (spLawPair K)) :
    FnOk P w K mg base CX0 2 T.a__law_good T.d__law_good ["_law_parts_here", "_law_value"] (spLawGood K) := by
  refine T.F__law_good.ok sc_law_good (fun vs H Q E h => ?_) (fun cdv A outer s H vs Q E hr h => ?_)
  · obtain ⟨u, v, p, m, rfl, _⟩ := h
    rfl
  obtain ⟨u, v, p, m, rfl, hT, ok, h⟩ := h
  obtain ⟨pa, aw, as, vd, ve, rfl, hP, h1, h2, h3, h4⟩ := parts_at hT
  have s4 := ok.s4
  have d6 := ok.d6
  refine ⟨_, (pss_cons (ps_if (PW.pt (pw_or (pt_not (pt_val (pe_callB call_isi rfl T.z_isinstance (by decide +kernel) (pa_cons (pv 1) (pa_cons (pe_bltn (v := .ty "tuple") rfl T.z_tuple (by decide +kernel) rfl) pa_nil))))) (pw_or (pt_cmpR op_eq (pe_callB call_len rfl T.z_len PySem.boot_len (pa_cons (pv 1) pa_nil)) pe_int (nomark _)) (pw_or1 (pt_not (pt_val (pe_callB call_isi rfl T.z_isinstance (by decide +kernel) (pa_cons (pe_ix ix_tup (pv 1) pe_int (fun _ _ => rfl)) (pa_cons (pe_bltn (v := .ty "str") rfl T.z_str (by decide +kernel) rfl) pa_nil))))))))) (pss_one (ps_ret pe_bl)) pss_nil)
    (pss_cons (ps_if (pt_cmpR (op_eqD hr.units) (pe_ix ix_tup (pv 1) pe_int (fun _ _ => rfl)) pe_str (nomark _)) (pss_one (ps_ret (pe_call G__law_pair (hr.mono (by omega)) rfl T.m__law_pair T.F__law_pair.kp T.b__law_pair .nil pass0 (pa_cons (pv 0) (pa_cons (pe_slice sl_tupA (pv 1) (po_some pe_int) po_none) pa_nil))))) pss_nil)
    (pss_cons (ps_if (pt_cmpR op_ne (pe_callB call_len rfl T.z_len PySem.boot_len (pa_cons (pv 1) pa_nil)) pe_int (nomark _)) (pss_one (ps_ret pe_bl)) pss_nil)
    (pss_cons (ps_if (pt_cmpR (op_eqD hr.units) (pe_ix ix_tup (pv 1) pe_int (fun _ _ => rfl)) pe_str (nomark _)) (pss_cons (ps_set (i := 2) sc_law_good.nd rfl (Or.inl rfl) (pe_op op_cat (pe_callTy call_list_of rfl T.z_list (by decide +kernel) (pa_cons (pe_ix ix_tup (pv 0) pe_int (fun _ _ => rfl)) pa_nil)) (pe_lc (own := [("_law_pair_here", 4)]) (g := gName 4) (tt := tYes) (te := tOp (rIxT K) (tVar 4) (tC (.int 0))) rfl sc_law_good.nd (pi_tup (pe_ix ix_tup (pv 0) pe_int (fun _ _ => rfl))) (blkOk_by (own := [("_law_pair_here", 4)]) (N := N_law_good) (sc := defScope s_law_good) (by decide +kernel)) (fun _ _ _ _ _ => (pg_name (i := 4) sc_law_good.nd rfl (Or.inl rfl))) (fun _ _ _ _ _ => pts_nil) (fun _ _ _ _ _ => (pe_ix ix_tup (pv 4) pe_int (fun _ _ => rfl))))))
    (pss_one (ps_ret (pe_and (pe_callB call_isi rfl T.z_isinstance (by decide +kernel) (pa_cons (pe_ix ix_tup (pv 1) pe_int (fun _ _ => rfl)) (pa_cons (pe_bltn (v := .ty "str") rfl T.z_str (by decide +kernel) rfl) pa_nil))) (pe_one (pe_cmpR op_in_seq (pe_ix ix_tup (pv 1) pe_int (fun _ _ => rfl)) (pv 2) (by rfl))))))) pss_nil)
    (pss_cons (ps_if (PW.pt (pw_or (pt_cmpR (op_neD hr.units) (pe_ix ix_tup (pv 1) pe_int (fun _ _ => rfl)) pe_str (nomark _)) (pw_or (pt_not (pt_val (pe_callB call_isi rfl T.z_isinstance (by decide +kernel) (pa_cons (pe_ix ix_tup (pv 1) pe_int (fun _ _ => rfl)) (pa_cons (pe_bltn (v := .ty "tuple") rfl T.z_tuple (by decide +kernel) rfl) pa_nil))))) (pw_or1 (pt_cmpR op_eq (pe_callB call_len rfl T.z_len PySem.boot_len (pa_cons (pe_ix ix_tup (pv 1) pe_int (fun _ _ => rfl)) pa_nil)) pe_int (nomark _)))))) (pss_one (ps_ret pe_bl)) pss_nil)
    (pss_cons (ps_set (i := 3) sc_law_good.nd rfl (Or.inl rfl) (pe_lst pa_nil))
    (pss_cons (ps_for PassesOwn.never rfl (pi_tup (pe_ix ix_tup (pv 1) pe_int (fun _ _ => rfl))) (pg_name (i := 4) sc_law_good.nd rfl (Or.inl rfl)) (pss_cons (ps_if (PW.pt (pw_or (pt_not (pt_val (pe_call G__law_pair (hr.mono (by omega)) rfl T.m__law_pair T.F__law_pair.kp T.b__law_pair .nil pass0 (pa_cons (pv 0) (pa_cons (pv 4) pa_nil))))) (pw_or1 (pt_cmpR op_in_seq (pe_ix ix_tup (pv 4) pe_int (fun _ _ => rfl)) (pv 3) (by rfl))))) (pss_one (ps_ret pe_bl)) pss_nil)
    (pss_one (ps_expr (pe_bm PySem.F.plainAttrs_list PySem.F.slot_list_append PySem.F.type_list_append mt_append (pv 3) (pa_cons (pe_ix ix_tup (pv 4) pe_int (fun _ _ => rfl)) pa_nil))))))
    (pss_one (ps_ret pe_bl))))))))), ?_⟩
  rcases h with ⟨d, k, hD, hsm, hk, q⟩ | ⟨hY, q⟩
  · refine ⟨_, rfl, v, .ty "tuple", .type (tyD d), .type "tuple", _, rfl, .ty _, ty_data hD, kit_tuple d, _, rfl, ?_⟩
    by_cases ht : isTup d = true
    · rw [ht]
      obtain ⟨ds, rfl⟩ := isTup_ex ht
      obtain ⟨j, rfl⟩ := sm_pos hsm
      obtain ⟨d100, dsm⟩ := sm_tup hsm
      obtain ⟨a, xs, rfl, hS, hA⟩ := Dp.tup_inv hD
      have xl := DpAll.length hA
      refine iteF ?_
      refine ⟨_, rfl, .ref a, _, rfl, .inr ⟨_, hS, rfl⟩, rfl, _, rfl, ?_⟩
      match ds with
      | [] =>
        refine if_true_of (by rw [xl]; rfl) (if_true_of rfl ?_)
        exact q H (Same.refl _)
      | d0 :: ds1 =>
        obtain ⟨x0, xs1, rfl, g0, t0⟩ := all_cons hA
        have m0 := dsm d0 (by simp)
        refine if_false_of (by rw [decide_eq_false (show ¬ V.int ((x0 :: xs1).length : Nat) = .int 0 from fun z => by injection z with z; simp at z; omega)]) ?_
        refine ⟨_, rfl, a, _, 0, _, rfl, rfl, hS, atI_nat (j := 0) rfl, x0, .ty "str", .type (tyD d0), .type "str", _, rfl, .ty _, ty_data g0, kit_str d0, _, rfl, ?_⟩
        cases hs0 : strOf d0 with
        | none =>
          have e1 : isDeedD p (.tuple (d0 :: ds1)) = false := by cases d0 with | str z => cases hs0 | _ => cases ds1 <;> rfl
          rw [e1] at q
          exact if_true_of rfl (q H (Same.refl _))
        | some z0 =>
        refine if_false_of rfl ?_
        refine ⟨_, rfl, a, _, 0, _, rfl, rfl, hS, atI_nat (j := 0) rfl, d0, .str "write", g0, .str _, shaped_sm m0 (by omega), shaped_lit (by decide +kernel), _, rfl, ?_⟩
        cases e0 : PyData.eqv d0 (.str "write") with
        | true =>
          refine if_true_of rfl ?_
          refine ⟨_, rfl, _, rfl, 1, rfl, ?_⟩
          try dsimp only [tNoPart]
          refine sl_all hS fun p1 H1 s1 g1 => ?_
          have g1' : SqT K H1 p1 ((x0 :: xs1).drop 1) := by rw [← cut_from _ 1]; exact g1
          refine ⟨.ref pa, .ref p1, p, m, .tuple ds1, j + 1, rfl, Tn.same s1 hT, ok, .tup g1' (same_all s1 t0), ?_, by omega, fun H2 s2 => ?_⟩
          · exact sm_of_tup (by simp at d100 ⊢; omega) fun x hx => dsm x (List.mem_cons_of_mem _ hx)
          · have eD : isDeedD p (.tuple (d0 :: ds1)) = isWriteD p (.tuple ds1) := by
              cases ds1 with
              | nil => rw [deed_short (by simp)]; rfl
              | cons d1 r => rw [deed_eq, e0]; rfl
            rw [eD] at q
            exact q H2 (s1.trans s2)
        | false =>
          refine if_false_of rfl ?_
          refine ⟨_, rfl, .ref a, _, rfl, .inr ⟨_, hS, rfl⟩, rfl, _, rfl, ?_⟩
          match ds1 with
          | [] =>
            cases t0
            refine if_true_of (by rfl) ?_
            rw [deed_short (by simp)] at q
            exact q H (Same.refl _)
          | d1 :: d2 :: r =>
            obtain ⟨x1, xs2, rfl, g1, t1⟩ := all_cons t0
            obtain ⟨x2, xs3, rfl, g2, t2⟩ := all_cons t1
            rw [deed_eq, e0] at q
            refine if_true_of (by rw [decide_eq_false (show ¬ V.int ((x0 :: x1 :: x2 :: xs3).length : Nat) = .int 2 from fun z => by injection z with z; simp at z; omega)]; rfl) ?_
            exact q H (Same.refl _)
          | [d1] =>
          obtain ⟨x1, xs2, rfl, g1, t1⟩ := all_cons t0
          cases t1
          have m1 := dsm d1 (by simp)
          rw [deed_eq, e0] at q
          refine if_false_of (by rfl) ?_
          refine ⟨_, rfl, a, _, 0, _, rfl, rfl, hS, rfl, d0, .str "read", g0, .str _, shaped_sm m0 (by omega), shaped_lit (by decide +kernel), _, rfl, ?_⟩
          cases e2 : PyData.eqv d0 (.str "read") with
          | true =>
            have eb : PyData.eqv d0 (.str "batch") = false := by
              rw [eqv_strR] at e2 ⊢
              cases d0 with
              | str z => have ez := of_decide_eq_true e2; subst ez; decide +kernel
              | _ => rfl
            rw [eb, e2] at q
            have q' : ∀ H', Same H H' → Q (.bl (inStrs p.cells d1)) H' := q
            refine if_true_of rfl ?_
            obtain ⟨ad, ys, rfl, hAd, hyl, hyd⟩ := pairs_at h3
            refine ⟨_, rfl, pa, _, 1, _, rfl, rfl, hP, rfl, as, _, rfl, .inr h2, fun c1 hc1 => ?_⟩
            have s1 := Same.new hc1 (.lst (p.sources.map V.str))
            have e1 : upd H c1 (.lst (p.sources.map V.str)) c1 = some (.lst (p.sources.map V.str)) := upd_same
            try dsimp only
            generalize upd H c1 (.lst (p.sources.map V.str)) = H1 at s1 e1
            refine ⟨_, rfl, pa, _, 2, _, rfl, rfl, SqT.same s1 hP, rfl, ad, rfl, ⟨_, SqT.same s1 hAd⟩, fun D hD0 => lc_tup (K := K) (a := ad) (xs := ys) (fun i H' => Same H1 H' ∧ H' D = some (.lst ((p.derived.take i).map fun q => V.str q.1)))
              ⟨Same.new hD0 _, upd_same⟩ (fun i H' _ ⟨hs, _⟩ => SqT.same (s1.trans hs) hAd) ?_ ?_⟩
            · rintro i y H' hy ⟨hs, hb⟩
              obtain ⟨qq, b, vr, hq, rfl, hB, hTq⟩ := hyd i y hy
              have hi : i < p.derived.length := (List.getElem?_eq_some_iff.mp hq).1
              refine ⟨rfl, tYes_of ?_⟩
              refine ⟨_, rfl, b, _, 0, _, rfl, rfl, SqT.same (s1.trans hs) hB, rfl, _, hb, small1000 (by rw [List.length_map, List.length_take]; omega), own_same hs hD0, ?_⟩
              rw [upd_same, take_more hq, List.map_append]
              rfl
            rintro H2 ⟨t2, hb⟩
            rw [hyl, List.take_length] at hb
            have e2' := t2 _ _ e1
            refine ⟨c1, D, _, _, rfl, rfl, e2', hb, Nat.le_of_lt (small1000 (by rw [List.length_map, List.length_map]; omega)), fun c2 hc2 => ?_⟩
            have s3 := Same.new hc2 (.lst (p.sources.map V.str ++ p.derived.map fun q => V.str q.1))
            have e3 : upd H2 c2 (.lst (p.sources.map V.str ++ p.derived.map fun q => V.str q.1)) c2 = some (.lst (p.cells.map V.str)) := by
              rw [upd_same]; unfold PP.cells; rw [List.map_append, List.map_map]; rfl
            have s03 := (s1.trans t2).trans s3
            try dsimp only
            generalize upd H2 c2 (.lst (p.sources.map V.str ++ p.derived.map fun q => V.str q.1)) = H3 at s3 e3 s03
            have g13 := Dp.same s03 g1
            have hS3 := SqT.same s03 hS
            refine ⟨_, rfl, a, _, 1, _, rfl, rfl, hS3, rfl, x1, .ty "str", .type (tyD d1), .type "str", _, rfl, .ty _, ty_data g13, kit_str d1, _, rfl, ?_⟩
            cases d1 with
            | str z =>
              cases g13
              refine if_true_of rfl ?_
              refine ⟨_, rfl, a, _, 1, _, rfl, rfl, hS3, rfl, _, rfl, c2, _, rfl, .inl (SqL.of e3), rfl, L2.flat_strs _, ?_⟩
              show Q (.bl (inV (.str z) (p.cells.map V.str))) H3
              rw [inV_strs]
              exact q' H3 s03
            | _ => exact if_false_of rfl (q' H3 s03)
          | false =>
            rw [e2] at q
            refine if_false_of rfl ?_
            refine ⟨_, rfl, a, _, 0, _, rfl, rfl, hS, rfl, d0, .str "batch", g0, .str _, shaped_sm m0 (by omega), shaped_lit (by decide +kernel), _, rfl, ?_⟩
            cases eb : PyData.eqv d0 (.str "batch") with
            | false =>
              rw [eb] at q
              exact if_true_of rfl (if_true_of rfl (q H (Same.refl _)))
            | true =>
              rw [eb] at q
              have q' : ∀ H', Same H H' → Q (.bl (isBatchD p d1)) H' := q
              refine if_false_of rfl ?_
              refine ⟨_, rfl, a, _, 1, _, rfl, rfl, hS, rfl, x1, .ty "tuple", .type (tyD d1), .type "tuple", _, rfl, .ty _, ty_data g1, kit_tuple d1, _, rfl, ?_⟩
              by_cases ht1 : isTup d1 = true
              · rw [ht1]
                obtain ⟨bs, rfl⟩ := isTup_ex ht1
                obtain ⟨j2, rfl⟩ := sm_pos m1
                obtain ⟨b100, bsm⟩ := sm_tup m1
                obtain ⟨a1, zs, rfl, hS1, hA1⟩ := Dp.tup_inv g1
                have zl := DpAll.length hA1
                refine if_false_of rfl ?_
                refine ⟨_, rfl, a, _, 1, _, rfl, rfl, hS, rfl, .ref a1, _, rfl, .inr ⟨_, hS1, rfl⟩, rfl, _, rfl, ?_⟩
                by_cases l0 : bs = []
                · subst l0
                  refine if_true_of (by rw [zl]; rfl) ?_
                  exact q' H (Same.refl _)
                have lp : 0 < bs.length := List.length_pos_iff.mpr l0
                refine if_false_of (by rw [decide_eq_false (show ¬ V.int (zs.length : Nat) = .int 0 from fun z => by injection z with z; omega)]) ?_
                have eB : isBatchD p (.tuple bs) = goBatch p [] bs := by
                  cases bs with
                  | nil => exact absurd rfl l0
                  | cons x l => rfl
                rw [eB] at q'
                refine ⟨by show 0 ≤ sizeLine; decide, fun b hb => ?_⟩
                have s1 := Same.new hb (.lst [])
                refine ⟨_, rfl, a, _, 1, _, rfl, rfl, SqT.same s1 hS, rfl, a1, rfl, ⟨_, SqT.same s1 hS1⟩, for_tup (K := K) (a := a1) (xs := zs) (fun i σ H' => ∃ (seen : List Str) (v4 : Option V), σ = [some (.ref pa), some (.ref a), none, some (.ref b), v4] ∧ Same H H' ∧ H' b = some (.lst (seen.map V.str)) ∧ seen.length = i ∧ goBatch p [] bs = goBatch p seen (bs.drop i))
                  ⟨[], none, rfl, s1, upd_same, rfl, rfl⟩ (fun i σ H' _ ⟨_, _, _, hs, _⟩ => SqT.same hs hS1) ?_ ?_⟩
                · rintro i x σ H1 hi ⟨seen, v3, rfl, hs, hl, sl, eg⟩
                  obtain ⟨c0, hd0, hx0⟩ := DpAll.get hA1 hi
                  have hid : i < bs.length := (List.getElem?_eq_some_iff.mp hd0).1
                  have mc := bsm c0 (List.mem_of_getElem? hd0)
                  have e1 : bs.drop i = c0 :: bs.drop (i + 1) := by
                    rw [List.drop_eq_getElem_cons hid]
                    rw [List.getElem?_eq_getElem hid] at hd0
                    cases hd0
                    rfl
                  rw [e1] at eg
                  have eg2 : goBatch p seen (c0 :: bs.drop (i + 1)) = (isWriteD p c0 && (!decide (headStr c0 ∈ seen) && goBatch p (seen ++ [headStr c0]) (bs.drop (i + 1)))) := rfl
                  rw [eg2] at eg
                  refine ⟨_, rfl, _, rfl, .ref pa, x, p, m, c0, j2, rfl, Tn.same hs hT, ok, Dp.same hs hx0, mc, by omega, fun H2 s2 => ⟨_, rfl, ?_⟩⟩
                  have hs2 := hs.trans s2
                  have hl2 := s2 _ _ hl
                  cases hw : isWriteD p c0 with
                  | false =>
                    rw [hw] at eg
                    refine if_true_of rfl (if_true_of rfl ?_)
                    rw [eg] at q'
                    exact q' H2 hs2
                  | true =>
                    rw [hw, Bool.true_and] at eg
                    refine if_false_of rfl ?_
                    obtain ⟨z1, z2, rfl, z1m, z2m⟩ := write_of hw
                    obtain ⟨b2, es, rfl, hB2, hE2⟩ := Dp.tup_inv (Dp.same hs2 hx0)
                    obtain ⟨vw, rfl⟩ : ∃ vw, es = [.str z1, vw] := by
                      cases hE2 with
                      | cons a1 a2 =>
                        cases a1
                        cases a2 with
                        | cons a3 a4 => cases a4; exact ⟨_, rfl⟩
                    have eh : headStr (.tuple [.str z1, .str z2]) = z1 := rfl
                    rw [eh] at eg
                    refine ⟨_, rfl, b2, _, 0, _, rfl, rfl, hB2, rfl, _, rfl, b, _, rfl, .inl (SqL.of hl2), rfl, L2.flat_strs _, _, rfl, ?_⟩
                    by_cases hin : z1 ∈ seen
                    · rw [decide_eq_true hin] at eg
                      refine if_true_of (by show inV (.str z1) (seen.map V.str) = true; rw [inV_strs, decide_eq_true hin]) ?_
                      have eg' : goBatch p [] bs = false := eg
                      rw [eg'] at q'
                      exact q' H2 hs2
                    · rw [decide_eq_false hin] at eg
                      refine if_false_of (by show inV (.str z1) (seen.map V.str) = false; rw [inV_strs, decide_eq_false hin]) ?_
                      have eg' : goBatch p [] bs = goBatch p (seen ++ [z1]) (bs.drop (i + 1)) := eg
                      refine ⟨_, rfl, .inl ⟨rfl, _, SqL.of hl2⟩, _, rfl, b2, _, 0, _, rfl, rfl, hB2, rfl, b, _, _, rfl, rfl, hl2, small1000 (by rw [List.length_map]; omega), ?_⟩
                      exact ⟨seen ++ [z1], _, rfl, Same.own hs2 hb, by rw [upd_same, List.map_append]; rfl, by rw [List.length_append, sl]; rfl, eg'⟩
                · rintro σ H1 ⟨seen, v3, rfl, hs, hl, sl, eg⟩
                  rw [zl, List.drop_length] at eg
                  have eg' : goBatch p [] bs = true := eg
                  rw [eg'] at q'
                  exact q' H1 hs
              · have ht1' : isTup d1 = false := by simpa using ht1
                rw [ht1']
                have e : isBatchD p d1 = false := by
                  cases d1 with
                  | tuple ds => cases ht1'
                  | _ => rfl
                rw [e] at q'
                exact if_true_of rfl (if_true_of rfl (q' H (Same.refl _)))
    · have ht' : isTup d = false := by simpa using ht
      rw [ht']
      have e : isDeedD p d = false := by
        cases d with
        | tuple ds => cases ht'
        | _ => rfl
      rw [e] at q
      exact iteT (q H (Same.refl _))
  · refine ⟨_, rfl, v, .ty "tuple", .type "dict", .type "tuple", false, rfl, .ty _, hY, kit_ty (by decide +kernel), _, rfl, ?_⟩
    exact iteT (q H (Same.refl _))
end
end K09
namespace K09
open PySem PySem.Spec PyProof.Rows L2 Td
inductive De
  | rd (c : Str)
  | wr (s w : Str)
  | bt (ps : List (Str × Str))
def wpD (p : Str × Str) : PyData := .tuple [.str p.1, .str p.2]
def De.data : De → PyData
  | .rd c => .tuple [.str "read", .str c]
  | .wr s w => .tuple [.str "write", .str s, .str w]
  | .bt ps => .tuple [.str "batch", .tuple (ps.map wpD)]
def De.Of (p : PP) : De → Prop
  | .rd c => c ∈ p.cells
  | .wr s w => s ∈ p.sources ∧ w ∈ p.words
  | .bt ps => ps ≠ [] ∧ ps.length ≤ 4 ∧ (∀ q ∈ ps, q.1 ∈ p.sources ∧ q.2 ∈ p.words) ∧ (ps.map (·.1)).Nodup
theorem nodup_snoc {L : List Str} {x : Str} (h : L.Nodup) (hx : x ∉ L) : (L ++ [x]).Nodup := by
  rw [List.nodup_append]
  refine ⟨h, by simp, fun a ha b hb => ?_⟩
  rw [List.mem_singleton] at hb
  rintro rfl
  exact hx (hb ▸ ha)
theorem stGo {H H' : Hp} {st sc : Addr} (h : StOk H st sc) (s : Same H H') : StOk H' st sc := by
  obtain ⟨cs, i, d, c, z, h1, h2, r⟩ := h
  exact ⟨cs, i, d, c, z, s _ _ h1, s _ _ h2, r⟩
theorem Keep.of_same {st : Addr} {H H' : Hp} (s : Same H H') : Keep st H H' := fun b o _ e => s b o e
theorem pick_at {L : List Str} {r : Int} (h0 : 0 ≤ r) (h1 : r < (((L.map V.str).length : Nat) : Int)) : ∃ (j : Nat) (z : Str), L[j]? = some z ∧ r = (j : Nat) ∧ atI (L.map V.str) r = some (.str z) := by
  rw [List.length_map] at h1
  obtain ⟨k, rfl⟩ : ∃ k : Nat, r = (k : Nat) := ⟨r.toNat, by omega⟩
  have hj : k < L.length := by omega
  refine ⟨k, L[k], List.getElem?_eq_getElem hj, rfl, atI_nat ?_⟩
  rw [List.getElem?_map, List.getElem?_eq_getElem hj]
  rfl
theorem pair_at0 {K : PySem.W.Frag} {H : Hp} {x : V} {q : Str × List Td.Row} (h : Tn K H x (pairD q)) : ∃ a v, x = .ref a ∧ SqT K H a [.str q.1, v] := by
  obtain ⟨a, xs, rfl, hS, hT⟩ := Tn.tup_inv h
  cases hT with
  | cons c1 t1 => cases c1; cases t1 with | cons c2 t2 => cases t2; exact ⟨a, _, rfl, hS⟩
theorem erase_facts {L : List Str} {k : Nat} {z : Str} (h : L[k]? = some z) (nd : L.Nodup) : (L.eraseIdx k).length + 1 = L.length ∧ (L.eraseIdx k).Nodup ∧ z ∉ L.eraseIdx k ∧ (∀ x ∈ L.eraseIdx k, x ∈ L) ∧ (L.map V.str).eraseIdx k = (L.eraseIdx k).map V.str := by
  have hk : k < L.length := (List.getElem?_eq_some_iff.mp h).1
  have e : L = L.take k ++ z :: L.drop (k + 1) := by
    have := (List.getElem?_eq_some_iff.mp h).2
    rw [← this, ← List.drop_eq_getElem_cons hk, List.take_append_drop]
  have e2 : L.eraseIdx k = L.take k ++ L.drop (k + 1) := List.eraseIdx_eq_take_drop_succ L k
  have nd2 : (z :: (L.take k ++ L.drop (k + 1))).Nodup := by
    rw [e] at nd
    exact List.perm_middle.nodup_iff.mp nd
  rw [← e2] at nd2
  rw [List.nodup_cons] at nd2
  refine ⟨by rw [List.length_eraseIdx_of_lt hk]; omega, nd2.2, nd2.1, fun x hx => List.mem_of_mem_eraseIdx hx, ?_⟩
  rw [e2, List.eraseIdx_eq_take_drop_succ, List.map_append, List.map_take, List.map_drop]
def spDeed (K : PySem.W.Frag) : Sp := fun vs H Q _ => ∃ (st sc : Addr) (v : V) (p : PP) (m : Nat), vs = [.ref st, v] ∧ StOk H st sc ∧ Tn K H v p.data ∧ p.Ok m ∧
  ∀ (u : V) (d : De) H', Keep st H H' → StOk H' st sc → d.Of p → Tn K H' u d.data → Q u H'
section
variable {P : Program} {w : World} {K : PySem.W.Frag} {mg : Str → Option Value} {base : Heap}
theorem ok_law_deed (T : Tops w K mg) (G__law_draw : FnOk P w K mg base CX0 1 T.a__law_draw T.d__law_draw ["_law_state_here", "_law_many_here"] spDraw) :
    FnOk P w K mg base CX0 2 T.a__law_deed T.d__law_deed ["_law_state_here", "_law_parts_here"] (spDeed K) := by
  refine T.F__law_deed.ok sc_law_deed (fun vs H Q E h => ?_) (fun cdv A outer s H vs Q E hr h => ?_)
  · obtain ⟨st, sc, v, p, m, rfl, _⟩ := h; rfl
  obtain ⟨st, sc, v, p, m, rfl, ho, hD, ok, q⟩ := h
  refine ⟨_, (pss_cons (ps_set (i := 2) sc_law_deed.nd rfl (Or.inl rfl) (pe_call G__law_draw (hr.mono (by omega)) rfl T.m__law_draw T.F__law_draw.kp T.b__law_draw .nil pass0 (pa_cons (pv 0) (pa_cons pe_int pa_nil))))
    (pss_cons (ps_set (i := 3) sc_law_deed.nd rfl (Or.inl rfl) (pe_op op_cat (pe_callTy call_list_of rfl T.z_list (by decide +kernel) (pa_cons (pe_ix ix_tup (pv 1) pe_int (fun _ _ => rfl)) pa_nil)) (pe_lc (own := [(("_law_pair_here" : Str), 8)]) (wi := (iTup K (tOp (rIxT K) (tVar 1) (tC (.int 2))))) (g := gName 8) (tt := tYes) (te := (tOp (rIxT K) (tVar 8) (tC (.int 0)))) rfl sc_law_deed.nd (pi_tup (pe_ix ix_tup (pv 1) pe_int (fun _ _ => rfl))) (blkOk_by (own := [(("_law_pair_here" : Str), 8)]) (N := N_law_deed) (sc := defScope s_law_deed) (by decide +kernel)) (fun _ _ _ _ _ => (pg_name (i := 8) sc_law_deed.nd rfl (Or.inl rfl))) (fun _ _ _ _ _ => pts_nil) (fun _ _ _ _ _ => (pe_ix (r := (rIxT K)) ix_tup (pv 8) pe_int (fun _ _ => rfl))))))
    (pss_cons (ps_if (pt_cmpR op_eq (pv 2) pe_int (nomark _)) (pss_one (ps_ret (pe_tup (pa_cons pe_str (pa_cons (pe_ix ix_list (pv 3) (pe_call G__law_draw (hr.mono (by omega)) rfl T.m__law_draw T.F__law_draw.kp T.b__law_draw .nil pass0 (pa_cons (pv 0) (pa_cons (pe_callB call_len rfl T.z_len PySem.boot_len (pa_cons (pv 3) pa_nil)) pa_nil))) (fun _ _ => rfl)) pa_nil))))) pss_nil)
    (pss_cons (ps_if (pt_cmpR op_gt (pv 2) pe_int (nomark _)) (pss_cons (ps_set (i := 4) sc_law_deed.nd rfl (Or.inl rfl) (pe_ix ix_tup (pe_ix ix_tup (pv 1) pe_int (fun _ _ => rfl)) (pe_call G__law_draw (hr.mono (by omega)) rfl T.m__law_draw T.F__law_draw.kp T.b__law_draw .nil pass0 (pa_cons (pv 0) (pa_cons (pe_callB call_len rfl T.z_len PySem.boot_len (pa_cons (pe_ix ix_tup (pv 1) pe_int (fun _ _ => rfl)) pa_nil)) pa_nil))) (fun _ _ => rfl)))
    (pss_one (ps_ret (pe_tup (pa_cons pe_str (pa_cons (pv 4) (pa_cons (pe_ix ix_tup (pe_ix ix_tup (pv 1) pe_int (fun _ _ => rfl)) (pe_call G__law_draw (hr.mono (by omega)) rfl T.m__law_draw T.F__law_draw.kp T.b__law_draw .nil pass0 (pa_cons (pv 0) (pa_cons (pe_callB call_len rfl T.z_len PySem.boot_len (pa_cons (pe_ix ix_tup (pv 1) pe_int (fun _ _ => rfl)) pa_nil)) pa_nil))) (fun _ _ => rfl)) pa_nil))))))) pss_nil)
    (pss_cons (ps_set (i := 5) sc_law_deed.nd rfl (Or.inl rfl) (pe_callTy call_list_of rfl T.z_list (by decide +kernel) (pa_cons (pe_ix ix_tup (pv 1) pe_int (fun _ _ => rfl)) pa_nil)))
    (pss_cons (ps_set (i := 6) sc_law_deed.nd rfl (Or.inl rfl) (pe_lst pa_nil))
    (pss_cons (ps_for PassesOwn.never rfl (pi_range1 rfl T.z_range (pa_cons (pe_op op_add pe_int (pe_call G__law_draw (hr.mono (by omega)) rfl T.m__law_draw T.F__law_draw.kp T.b__law_draw .nil pass0 (pa_cons (pv 0) (pa_cons (pe_callB call_len rfl T.z_len PySem.boot_len (pa_cons (pv 5) pa_nil)) pa_nil)))) pa_nil)) (pg_name (i := 7) sc_law_deed.nd rfl (Or.inl rfl)) (pss_cons (ps_set (i := 4) sc_law_deed.nd rfl (Or.inl rfl) (pe_bm PySem.F.plainAttrs_list PySem.F.slot_list_pop PySem.F.type_list_pop mt_popAt (pv 5) (pa_cons (pe_call G__law_draw (hr.mono (by omega)) rfl T.m__law_draw T.F__law_draw.kp T.b__law_draw .nil pass0 (pa_cons (pv 0) (pa_cons (pe_callB call_len rfl T.z_len PySem.boot_len (pa_cons (pv 5) pa_nil)) pa_nil))) pa_nil)))
    (pss_one (ps_expr (pe_bm PySem.F.plainAttrs_list PySem.F.slot_list_append PySem.F.type_list_append mt_append (pv 6) (pa_cons (pe_tup (pa_cons (pv 4) (pa_cons (pe_ix ix_tup (pe_ix ix_tup (pv 1) pe_int (fun _ _ => rfl)) (pe_call G__law_draw (hr.mono (by omega)) rfl T.m__law_draw T.F__law_draw.kp T.b__law_draw .nil pass0 (pa_cons (pv 0) (pa_cons (pe_callB call_len rfl T.z_len PySem.boot_len (pa_cons (pe_ix ix_tup (pv 1) pe_int (fun _ _ => rfl)) pa_nil)) pa_nil))) (fun _ _ => rfl)) pa_nil))) pa_nil))))))
    (pss_one (ps_ret (pe_tup (pa_cons pe_str (pa_cons (pe_callTy (T := "tuple") call_tuple_of rfl T.z_tuple (by decide +kernel) (pa_cons (pv 6) pa_nil)) pa_nil)))))))))))), ?_⟩
  obtain ⟨pa, aw, as, vd, ve, rfl, hP, hW, hS, hd, he⟩ := parts_at hD
  obtain ⟨ad, xd, rfl, hA, hX⟩ := Tn.tup_inv hd
  have w2 := ok.w2; have w4 := ok.w4; have s1' := ok.s1; have s4' := ok.s4; have d6 := ok.d6
  have wl : (p.words.map V.str).length = p.words.length := List.length_map _
  have sl : (p.sources.map V.str).length = p.sources.length := List.length_map _
  have wnm : ∀ z ∈ p.words, z ∈ p.words := fun z hz => hz
  have snm : ∀ z ∈ p.sources, z ∈ p.sources := fun z hz => hz
  refine ⟨_, rfl, st, sc, 6, rfl, by decide, by decide, ho, fun r H1 hr0 hr6 k1 o1 _ => ?_⟩
  have tk1 := TK.of_keep k1 ho.chg
  have hP1 := SqT.tk tk1 hP
  refine ⟨_, rfl, pa, _, 1, _, rfl, rfl, hP1, rfl, as, _, rfl, .inr (SqT.tk tk1 hS), fun l1 hl1 => ?_⟩
  have s1 := Same.new hl1 (.lst (p.sources.map V.str))
  have o1a := o1.new (o := .lst (p.sources.map V.str)) hl1
  have n1 := (o1.ne hl1).1
  have e1 : upd H1 l1 (.lst (p.sources.map V.str)) l1 = some (.lst (p.sources.map V.str)) := upd_same
  dsimp only
  generalize upd H1 l1 (.lst (p.sources.map V.str)) = H2 at s1 o1a e1
  refine ⟨_, rfl, pa, _, 2, _, rfl, rfl, SqT.same s1 hP1, rfl, ad, rfl, ⟨_, SqT.same s1 (SqT.tk tk1 hA)⟩, fun D hD' => lc_tup (K := K) (a := ad) (xs := xd) (fun i H' => Same H2 H' ∧ H' D = some (.lst (((p.derived.map (·.1)).take i).map V.str)))
    ⟨Same.new hD' _, upd_same⟩ (fun i H' _ ⟨s', _⟩ => SqT.same (s1.trans s') (SqT.tk tk1 hA)) ?_ ?_⟩
  · rintro i x H3 hx ⟨s3, h3⟩
    obtain ⟨d0, hd1, hd2⟩ := hX.get hx
    rw [List.getElem?_map] at hd1
    obtain ⟨qq, hqq, rfl⟩ := Option.map_eq_some_iff.mp hd1
    obtain ⟨a, v, rfl, hQ⟩ := pair_at0 hd2
    have il : i < p.derived.length := (List.getElem?_eq_some_iff.mp hqq).1
    refine ⟨rfl, ?_⟩
    refine ⟨_, rfl, a, _, 0, _, rfl, rfl, SqT.same (s1.trans s3) (SqT.tk tk1 hQ), rfl, _, h3, small1000 (by rw [List.length_map, List.length_take]; omega), K09.Same.own s3 hD', ?_⟩
    have : (p.derived.map (·.1))[i]? = some qq.1 := by rw [List.getElem?_map, hqq]; rfl
    rw [List.take_succ, this, List.map_append]
    exact upd_same
  rintro H3 ⟨s3, h3⟩
  have xl : xd.length = p.derived.length := by rw [hX.length, List.length_map]
  rw [List.take_of_length_le (by rw [List.length_map, xl]; omega)] at h3
  have o3 := stGo o1a s3
  refine ⟨l1, D, _, _, rfl, rfl, s3 _ _ e1, h3, Nat.le_of_lt (small1000 (by rw [List.length_map, List.length_map, List.length_map]; omega)), fun cl hcl => ?_⟩
  rw [← List.map_append]
  have o4 := o3.new (o := .lst ((p.sources ++ p.derived.map (·.1)).map V.str)) hcl
  have s4 := Same.new hcl (.lst ((p.sources ++ p.derived.map (·.1)).map V.str))
  have ncl := (o3.ne hcl).1
  have hC : upd H3 cl (.lst ((p.sources ++ p.derived.map (·.1)).map V.str)) cl = some (.lst ((p.sources ++ p.derived.map (·.1)).map V.str)) := upd_same
  have k4 : Keep st H (upd H3 cl (.lst ((p.sources ++ p.derived.map (·.1)).map V.str))) := k1.trans (K09.Keep.of_same (s1.trans (s3.trans s4)))
  generalize upd H3 cl (.lst ((p.sources ++ p.derived.map (·.1)).map V.str)) = H4 at o4 hC k4
  have tk4 := TK.of_keep k4 ho.chg
  have cll : ((p.sources ++ p.derived.map (·.1)).map V.str).length = p.sources.length + p.derived.length := by rw [List.length_map, List.length_append, List.length_map]
  refine ⟨_, rfl, rfl, _, rfl, ?_⟩
  by_cases r0 : r = 0
  · refine if_true_of (decide_eq_true (congrArg V.int r0)) ?_
    refine ⟨_, rfl, _, rfl, _, rfl, .ref cl, _, rfl, .inl ⟨_, SqL.of hC, rfl⟩, st, sc, _, rfl, by omega, by omega, o4, fun r2 H5 h0 h1 k5 o5 _ => ?_⟩
    obtain ⟨j, z, hz, hj, hat⟩ := pick_at h0 h1
    refine ⟨cl, _, _, _, rfl, rfl, SqL.of (k5 _ _ ncl hC), hat, by show 2 ≤ sizeLine; decide, fun t ht => ?_⟩
    have gz : z ∈ p.cells := List.mem_of_getElem? hz
    exact q _ (.rd z) _ ((k4.trans k5).trans (Keep.new ht)) (o5.new ht) gz (Tn.new (.cons (.str "read") (.cons (.str z) .nil)) ht)
  refine if_false_of (decide_eq_false (fun x => r0 (V.int.inj x))) ?_
  refine ⟨_, rfl, _, _, rfl, rfl, _, rfl, ?_⟩
  by_cases r2 : 2 < r
  · refine if_true_of (decide_eq_true r2) ?_
    have hP4 := SqT.tk tk4 hP
    have hS4 := SqT.tk tk4 hS
    have hW4 := SqT.tk tk4 hW
    refine ⟨_, rfl, pa, _, 1, _, rfl, rfl, hP4, rfl, _, rfl, _, rfl, pa, _, 1, _, rfl, rfl, hP4, rfl, .ref as, _, rfl, .inr ⟨_, hS4, rfl⟩, st, sc, _, rfl, by omega, by omega, o4, fun r3 H5 h0 h1 k5 o5 _ => ?_⟩
    obtain ⟨j, z, hz, hj, hat⟩ := pick_at h0 h1
    have tk5 := TK.of_keep k5 o4.chg
    have hP5 := SqT.tk tk5 hP4
    have hW5 := SqT.tk tk5 hW4
    refine ⟨as, _, _, _, rfl, rfl, SqT.tk tk5 hS4, hat, ?_⟩
    refine ⟨_, rfl, _, rfl, pa, _, 0, _, rfl, rfl, hP5, rfl, _, rfl, _, rfl, pa, _, 0, _, rfl, rfl, hP5, rfl, .ref aw, _, rfl, .inr ⟨_, hW5, rfl⟩, st, sc, _, rfl, by omega, by omega, o5, fun r4 H6 h2 h3' k6 o6 _ => ?_⟩
    obtain ⟨j2, z2, hz2, hj2, hat2⟩ := pick_at h2 h3'
    refine ⟨aw, _, _, _, rfl, rfl, SqT.tk (TK.of_keep k6 o5.chg) hW5, hat2, by show 3 ≤ sizeLine; decide, fun t ht => ?_⟩
    exact q _ (.wr z z2) _ (((k4.trans k5).trans k6).trans (Keep.new ht)) (o6.new ht) ⟨snm z (List.mem_of_getElem? hz), wnm z2 (List.mem_of_getElem? hz2)⟩ (Tn.new (.cons (.str "write") (.cons (.str z) (.cons (.str z2) .nil))) ht)
  refine if_false_of (decide_eq_false r2) ?_
  have nnd : p.sources.Nodup := by
    have := ok.nn.nd
    unfold PP.names at this
    exact (List.nodup_append.mp (List.nodup_append.mp this).1).1
  refine ⟨_, rfl, pa, _, 1, _, rfl, rfl, SqT.tk tk4 hP, rfl, as, _, rfl, .inr (SqT.tk tk4 hS), fun l5 hl5 => ?_⟩
  have n5 := o4.ne hl5
  have f5 := k4.free n5.1 hl5
  have o5 := o4.new (o := .lst (p.sources.map V.str)) hl5
  have k5 := k4.trans (Keep.new (st := st) (o := .lst (p.sources.map V.str)) hl5)
  have e5 : upd H4 l5 (.lst (p.sources.map V.str)) l5 = some (.lst (p.sources.map V.str)) := upd_same
  dsimp only
  generalize upd H4 l5 (.lst (p.sources.map V.str)) = H5 at o5 k5 e5
  refine ⟨by show 0 ≤ sizeLine; decide, fun l6 hl6 => ?_⟩
  have n6 := o5.ne hl6
  have f6 := k5.free n6.1 hl6
  have n56 : l5 ≠ l6 := ne_of_none e5 hl6
  have o6 := o5.new (o := .lst []) hl6
  have k6 := k5.trans (Keep.new (st := st) (o := .lst []) hl6)
  have e56 : upd H5 l6 (.lst []) l5 = some (.lst (p.sources.map V.str)) := by rw [upd_ne n56]; exact e5
  have e6 : upd H5 l6 (.lst []) l6 = some (.lst []) := upd_same
  generalize upd H5 l6 (.lst []) = H6 at o6 k6 e56 e6
  refine ⟨_, rfl, _, rfl, .ref l5, _, rfl, .inl ⟨_, SqL.of e56, rfl⟩, st, sc, _, rfl, by omega, by omega, o6, fun r7 H7 h0 h1 k7 o7 _ => ⟨_, _, rfl, rfl, 1 + r7, rfl, by omega, by omega, for_range (lo := 0) (n := (1 + r7).toNat)
    (fun i σ H' => ∃ (v4 v7 : Option V) (rest : List Str) (vs : List V) (ps : List (Str × Str)), σ = [some (.ref st), some (.ref pa), some (.int r), some (.ref cl), v4, some (.ref l5), some (.ref l6), v7, none] ∧ Keep st H H' ∧ StOk H' st sc ∧
      H' l5 = some (.lst (rest.map V.str)) ∧ H' l6 = some (.lst vs) ∧ TnAll K H' vs (ps.map wpD) ∧ ps.length = i ∧ rest.length + i = p.sources.length ∧ (∀ z ∈ rest, z ∈ p.sources) ∧ rest.Nodup ∧
      (∀ q ∈ ps, q.1 ∈ p.sources ∧ q.2 ∈ p.words ∧ q.1 ∉ rest) ∧ (ps.map (·.1)).Nodup)
    ⟨none, none, p.sources, [], [], rfl, k6.trans k7, o7, k7 _ _ n5.1 e56, k7 _ _ n6.1 e6, .nil, rfl, rfl, fun z hz => hz, nnd, by simp, List.nodup_nil⟩ ?_ ?_⟩⟩
  · rintro i σ H8 hi ⟨v4, v7, rest, vs, ps, rfl, k8, o8, e5', e6', hT, hpl, hrl, hrs, hrn, hpn, hpd⟩
    have rl : ((rest.map V.str).length : Nat) = rest.length := List.length_map _
    refine ⟨_, rfl, .inl ⟨rfl, _, SqL.of e5'⟩, _, rfl, _, rfl, .ref l5, _, rfl, .inl ⟨_, SqL.of e5', rfl⟩, st, sc, _, rfl, by omega, by omega, o8, fun r8 H9 g0 g1 k9 o9 _ => ?_⟩
    obtain ⟨_, z, _, _, hat⟩ := pick_at g0 g1
    obtain ⟨k, hk, hky, _⟩ := atI_get hat
    have hrz : rest[k]? = some z := by
      rw [List.getElem?_map] at hky
      obtain ⟨z', h1', h2'⟩ := Option.map_eq_some_iff.mp hky
      cases h2'
      exact h1'
    obtain ⟨ef1, ef2, ef3, ef4, ef5⟩ := erase_facts hrz hrn
    refine ⟨l5, _, _, k, _, rfl, rfl, k9 _ _ n5.1 e5', by omega, by omega, hk, hky, ?_⟩
    rw [ef5]
    have o10 := o9.other (o := .lst ((rest.eraseIdx k).map V.str)) n5.1 n5.2
    have k10 : Keep st H (upd H9 l5 (.lst ((rest.eraseIdx k).map V.str))) := Keep.own (k8.trans k9) f5
    have tk10 : TK H8 (upd H9 l5 (.lst ((rest.eraseIdx k).map V.str))) := (TK.of_keep k9 o8.chg).trans (TK.upd (by rw [k9 _ _ n5.1 e5']; trivial))
    have e510 : upd H9 l5 (.lst ((rest.eraseIdx k).map V.str)) l5 = some (.lst ((rest.eraseIdx k).map V.str)) := upd_same
    have e610 : upd H9 l5 (.lst ((rest.eraseIdx k).map V.str)) l6 = some (.lst vs) := by rw [upd_ne n56.symm]; exact k9 _ _ n6.1 e6'
    generalize upd H9 l5 (.lst ((rest.eraseIdx k).map V.str)) = H10 at o10 k10 tk10 e510 e610
    have tkH := TK.of_keep k10 ho.chg
    have hP10 := SqT.tk tkH hP
    have hW10 := SqT.tk tkH hW
    refine ⟨_, rfl, .inl ⟨rfl, _, SqL.of e610⟩, _, rfl, _, rfl, pa, _, 0, _, rfl, rfl, hP10, rfl, _, rfl, _, rfl, pa, _, 0, _, rfl, rfl, hP10, rfl, .ref aw, _, rfl, .inr ⟨_, hW10, rfl⟩, st, sc, _, rfl, by omega, by omega, o10, fun r11 H11 m0 m1 k11 o11 _ => ?_⟩
    obtain ⟨_, z2, hz2, _, hat2⟩ := pick_at m0 m1
    have tk11 := TK.of_keep k11 o10.chg
    refine ⟨aw, _, _, _, rfl, rfl, SqT.tk tk11 hW10, hat2, by show 2 ≤ sizeLine; decide, fun t ht => ?_⟩
    have e611 := k11 _ _ n6.1 e610
    have vl : vs.length = i := by rw [hT.length, List.length_map, hpl]
    have e612 : upd H11 t (.tup [.str z, .str z2]) l6 = some (.lst vs) := by rw [upd_ne (ne_of_none e611 ht)]; exact e611
    refine ⟨l6, vs, _, rfl, rfl, e612, small1000 (by omega), ?_⟩
    have s12 := Same.new ht (.tup [.str z, .str z2])
    have tk12 : TK (upd H11 t (.tup [.str z, .str z2])) (upd (upd H11 t (.tup [.str z, .str z2])) l6 (.lst (vs ++ [.ref t]))) := TK.upd (by rw [e612]; trivial)
    have e5' : H11 l5 = some (.lst ((rest.eraseIdx k).map V.str)) := k11 _ _ n5.1 e510
    refine ⟨_, _, rest.eraseIdx k, _, ps ++ [(z, z2)], rfl, Keep.own ((k10.trans k11).trans (K09.Keep.of_same s12)) f6, (o11.new ht).other n6.1 n6.2, by rw [upd_ne n56]; exact s12 _ _ e5', upd_same, ?_, by simp [hpl], by omega, fun x hx => hrs x (ef4 x hx), ef2, ?_, ?_⟩
    · rw [List.map_append]
      exact TnAll.append (TnAll.keep (((tk10.trans tk11).trans (TK.of_same s12)).trans tk12) hT) (TnAll.one (.tup (SqT.tk tk12 (SqT.of upd_same)) (.cons (.str z) (.cons (.str z2) .nil))))
    · intro q hq
      rcases List.mem_append.mp hq with hq | hq
      · obtain ⟨a1, a2, a3⟩ := hpn q hq
        exact ⟨a1, a2, fun x => a3 (ef4 _ x)⟩
      · rw [List.mem_singleton] at hq
        subst hq
        exact ⟨snm z (hrs z (List.mem_of_getElem? hrz)), wnm z2 (List.mem_of_getElem? hz2), ef3⟩
    · rw [List.map_append]
      refine nodup_snoc hpd fun hx => ?_
      obtain ⟨q, hq, hq2⟩ := List.mem_map.mp hx
      exact (hpn q hq).2.2 (hq2 ▸ List.mem_of_getElem? hrz)
  · rintro σ H8 ⟨v4, v7, rest, vs, ps, rfl, k8, o8, e5', e6', hT, hpl, hrl, hrs, hrn, hpn, hpd⟩
    refine ⟨_, rfl, l6, _, rfl, .inl ⟨SqL.of e6', fun n hn => ⟨by show 2 ≤ sizeLine; decide, fun t ht => ?_⟩⟩⟩
    refine q _ (.bt ps) _ ((k8.trans (Keep.new hn)).trans (Keep.new ht)) ((o8.new hn).new ht) ⟨fun e => ?_, by omega, fun q hq => ⟨(hpn q hq).1, (hpn q hq).2.1⟩, hpd⟩ (Tn.new (.cons (.str "batch") (.cons (Tn.new hT hn) .nil)) ht)
    rw [e] at hpl
    simp at hpl
    omega
end
end K09
namespace K09
open PySem PySem.Spec PyProof.Rows L2 Td
/-! ### rules -/
def modesL : List Str := ["push", "pull", "level"]
def innersL : List Str := ["once", "later"]
def isBoolD : PyData → Bool
  | .bool _ => true
  | _ => false
def ruleFault (d1 d2 d3 : PyData) : Option Str := if inStrs modesL d1 = false then some "mode" else if isBoolD d2 = false then some "cut" else if inStrs innersL d3 = false then some "inner" else none
def ruleF (v1 v2 v3 : V) : List (Str × V) := [("mode", v1), ("cut", v2), ("inner", v3)]
theorem kit_bool {K : PySem.W.Frag} (d : PyData) : PySem.W.kitOne K (.type (tyD d)) (.type "bool") = some (isBoolD d) := by
  cases d with
  | none  => show PySem.W.kitOne K (.type "NoneType") (.type "bool") = some false; exact kit_ty (by decide +kernel)
  | bool b => show PySem.W.kitOne K (.type "bool") (.type "bool") = some true; exact kit_ty (by decide +kernel)
  | int i => show PySem.W.kitOne K (.type "int") (.type "bool") = some false; exact kit_ty (by decide +kernel)
  | str z => show PySem.W.kitOne K (.type "str") (.type "bool") = some false; exact kit_ty (by decide +kernel)
  | list z => show PySem.W.kitOne K (.type "list") (.type "bool") = some false; exact kit_ty (by decide +kernel)
  | tuple z => show PySem.W.kitOne K (.type "tuple") (.type "bool") = some false; exact kit_ty (by decide +kernel)
  | dict z => show PySem.W.kitOne K (.type "dict") (.type "bool") = some false; exact kit_ty (by decide +kernel)
theorem rf_mode {d1 d2 d3 : PyData} (h : inStrs modesL d1 = false) : ruleFault d1 d2 d3 = some ("mode" : Str) := by unfold ruleFault; rw [if_pos h]
theorem rf_cut {d1 d2 d3 : PyData} (h : inStrs modesL d1 = true) (h2 : isBoolD d2 = false) : ruleFault d1 d2 d3 = some ("cut" : Str) := by unfold ruleFault; rw [if_neg (by rw [h]; decide), if_pos h2]
theorem rf_inner {d1 d2 d3 : PyData} (h : inStrs modesL d1 = true) (h2 : isBoolD d2 = true) (h3 : inStrs innersL d3 = false) : ruleFault d1 d2 d3 = some ("inner" : Str) := by unfold ruleFault; rw [if_neg (by rw [h]; decide), if_neg (by rw [h2]; decide), if_pos h3]
theorem rf_none {d1 d2 d3 : PyData} (h : inStrs modesL d1 = true) (h2 : isBoolD d2 = true) (h3 : inStrs innersL d3 = true) : ruleFault d1 d2 d3 = none := by unfold ruleFault; rw [if_neg (by rw [h]; decide), if_neg (by rw [h2]; decide), if_neg (by rw [h3]; decide)]
theorem modes_nm : ∀ z ∈ modesL, isNm z = true := by
  have : modesL.all isNm = true := by decide +kernel
  exact List.all_eq_true.mp this
theorem inners_nm : ∀ z ∈ innersL, isNm z = true := by
  have : innersL.all isNm = true := by decide +kernel
  exact List.all_eq_true.mp this
theorem ruleF_put (v1 v2 v3 : V) : putF "inner" v3 (putF "cut" v2 (putF "mode" v1 [])) = ruleF v1 v2 v3 := by kernel_rfl
theorem ruleF_mode (v1 v2 v3 : V) : (ruleF v1 v2 v3).lookup ("mode" : Str) = some v1 := by kernel_rfl
theorem ruleF_cut (v1 v2 v3 : V) : (ruleF v1 v2 v3).lookup ("cut" : Str) = some v2 := by kernel_rfl
theorem ruleF_inner (v1 v2 v3 : V) : (ruleF v1 v2 v3).lookup ("inner" : Str) = some v3 := by kernel_rfl
def spRuleInit (K : PySem.W.Frag) (CR CI : Addr) : Sp := fun vs H Q E => ∃ (x dx : Addr) (v1 v2 v3 : V) (d1 d2 d3 : PyData), vs = [.ref x, v1, v2, v3] ∧ H x = some (.ins CR dx []) ∧ Dp K H v1 d1 ∧ Dp K H v2 d2 ∧ Dp K H v3 d3 ∧
  SeqAt.shaped d1 = true ∧ SeqAt.shaped d3 = true ∧ (ruleFault d1 d2 d3 = none → Q .non (upd H x (.ins CR dx (ruleF v1 v2 v3)))) ∧ (∀ pt, ruleFault d1 d2 d3 = some pt → Rz CI "part" (.str pt) H E)
/-- a rule in the heap -/
def RuleAt (H : Hp) (CR a : Addr) (q : Str × Bool × Str) : Prop := ∃ dx, H a = some (.ins CR dx (ruleF (.str q.1) (.bl q.2.1) (.str q.2.2)))
def spRuleEq (K : PySem.W.Frag) (CR : Addr) : Sp := fun vs H Q _ => ∃ (a b : Addr) (q r : Str × Bool × Str), vs = [.ref a, .ref b] ∧ RuleAt H CR a q ∧ RuleAt H CR b r ∧ ∀ H', Same H H' → Q (.bl (decide (q = r))) H'
def spLawRule (K : PySem.W.Frag) : Sp := fun vs H Q _ => ∃ (st sc : Addr), vs = [.ref st] ∧ StOk H st sc ∧ ∀ (u : Addr) (q : Str × Bool × Str) H', Keep st H H' → StOk H' st sc → q.1 ∈ modesL → q.2.2 ∈ innersL → SqT K H' u [.str q.1, .bl q.2.1, .str q.2.2] → Q (.ref u) H'
def spMadeR (K : PySem.W.Frag) : Sp := fun vs H Q _ => ∃ (l : Addr) (v1 v2 v3 : V) (d1 d2 d3 : PyData), vs = [.ref l] ∧ H l = some (.lst [v1, v2, v3]) ∧ Dp K H v1 d1 ∧ Dp K H v2 d2 ∧ Dp K H v3 d3 ∧ SeqAt.shaped d1 = true ∧ SeqAt.shaped d3 = true ∧
  (ruleFault d1 d2 d3 = none → ∀ (u : Addr) H', Same H H' → SqT K H' u [.str "rule", v1, v2, v3] → Q (.ref u) H') ∧ (∀ pt, ruleFault d1 d2 d3 = some pt → ∀ (u : Addr) H', Same H H' → SqT K H' u [.str "wrong", .str pt, .bl true, .bl false] → Q (.ref u) H')
def spFault (K : PySem.W.Frag) : Sp := fun vs H Q _ => ∃ (l : Addr) (v1 v2 v3 : V) (d1 d2 d3 : PyData), vs = [.ref l] ∧ H l = some (.lst [v1, v2, v3]) ∧ Dp K H v1 d1 ∧ Dp K H v2 d2 ∧ Dp K H v3 d3 ∧
  ∀ H', Same H H' → Q (match ruleFault d1 d2 d3 with | none => V.non | some pt => .str pt) H'
section
variable {P : Program} {w : World} {K : PySem.W.Frag} {mg : Str → Option Value} {base : Heap}
theorem ok_InvalidRule (T : Tops w K mg) : FnOk P w K mg base CX0 1 T.a_InvalidRule_init T.d_InvalidRule_init ["self", "part"] (spExc K T.c_InvalidRule "part") := by
  refine T.F_InvalidRule_init.ok sc_InvalidRule_init (fun vs H Q E h => ?_) (fun cdv A outer s H vs Q E hr h => ?_)
  · obtain ⟨a, y, rfl, _⟩ := h; rfl
  obtain ⟨a, y, rfl, ha, q⟩ := h
  exact ⟨_, (pss_one (ps_ost (pv 0) (pv 1))), _, rfl, _, rfl, a, T.c_InvalidRule, rfl, T.x_InvalidRule, T.n_InvalidRule_part, .inl ⟨ha, fun dx h1 h2 => q dx _ h1 h2 rfl⟩⟩
theorem ok_rule_init (T : Tops w K mg) (G_InvalidRule_init : FnOk P w K mg base CX0 1 T.a_InvalidRule_init T.d_InvalidRule_init ["self", "part"] (spExc K T.c_InvalidRule "part")) :
    FnOk P w K mg base (L2.CX P w) 3 T.a_Rule_init T.d_Rule_init ["self", "mode", "cut", "inner"] (spRuleInit K T.c_Rule T.c_InvalidRule) := by
  refine T.F_Rule_init.okX sc_Rule_init (fun vs H Q E h => ?_) (fun cdv A outer s H vs Q E hr h => ?_)
  · obtain ⟨x, dx, v1, v2, v3, d1, d2, d3, rfl, _⟩ := h; rfl
  obtain ⟨x, dx, v1, v2, v3, d1, d2, d3, rfl, hx, hD1, hD2, hD3, m1, m3, q, r⟩ := h
  refine ⟨_, (pss_cons (ps_if (pt_cmpR (op_ninDT (units65 hr)) (pv 1) (pe_glob (v := .ref T.a_MODES) rfl T.c_MODES rfl) (by rfl)) (pss_one (ps_raise rfl (takes_of rfl rfl rfl rfl) (pmk_oex T.x_InvalidRule T.xi_InvalidRule T.xt_InvalidRule G_InvalidRule_init (hr.mono (by omega)) T.b_InvalidRule_init .nil pass0 rfl T.m_InvalidRule (pa_cons pe_str pa_nil)))) pss_nil)
    (pss_cons (ps_if (pt_not (pt_val (pe_callB call_isi rfl T.z_isinstance (by decide +kernel) (pa_cons (pv 2) (pa_cons (pe_bltn (v := .ty "bool") rfl T.z_bool (by decide +kernel) rfl) pa_nil))))) (pss_one (ps_raise rfl (takes_of rfl rfl rfl rfl) (pmk_oex T.x_InvalidRule T.xi_InvalidRule T.xt_InvalidRule G_InvalidRule_init (hr.mono (by omega)) T.b_InvalidRule_init .nil pass0 rfl T.m_InvalidRule (pa_cons pe_str pa_nil)))) pss_nil)
    (pss_cons (ps_if (pt_cmpR (op_ninDT (units65 hr)) (pv 3) (pe_glob (v := .ref T.a_INNERS) rfl T.c_INNERS rfl) (by rfl)) (pss_one (ps_raise rfl (takes_of rfl rfl rfl rfl) (pmk_oex T.x_InvalidRule T.xi_InvalidRule T.xt_InvalidRule G_InvalidRule_init (hr.mono (by omega)) T.b_InvalidRule_init .nil pass0 rfl T.m_InvalidRule (pa_cons pe_str pa_nil)))) pss_nil)
    (pss_cons (ps_fld (pv 0) (pv 1) rfl)
    (pss_cons (ps_fld (pv 0) (pv 2) rfl)
    (pss_one (ps_fld (pv 0) (pv 3) rfl))))))), ?_⟩
  refine ⟨_, rfl, d1, modesL.map PyData.str, hD1, .tup (T.w_MODES _) (DpAll.strs modesL), m1, lay_strs modes_nm, _, rfl, ?_⟩
  show (if (!((modesL.map PyData.str).any fun z => PyData.eqv z d1)) = true then _ else _)
  rw [any_strs]
  cases b1 : inStrs modesL d1 with
  | false => exact if_true_of rfl (made_one (r "mode" (rf_mode b1)))
  | true =>
  refine if_false_of rfl ?_
  refine ⟨_, rfl, v2, .ty "bool", .type (tyD d2), .type "bool", _, rfl, .ty _, ty_data hD2, kit_bool d2, _, rfl, ?_⟩
  cases b2 : isBoolD d2 with
  | false => exact if_true_of rfl (made_one (r "cut" (rf_cut b1 b2)))
  | true =>
  refine if_false_of rfl ?_
  refine ⟨_, rfl, d3, innersL.map PyData.str, hD3, .tup (T.w_INNERS _) (DpAll.strs innersL), m3, lay_strs inners_nm, _, rfl, ?_⟩
  show (if (!((innersL.map PyData.str).any fun z => PyData.eqv z d3)) = true then _ else _)
  rw [any_strs]
  cases b3 : inStrs innersL d3 with
  | false => exact if_true_of rfl (made_one (r "inner" (rf_inner b1 b2 b3)))
  | true =>
  refine if_false_of rfl ?_
  refine ⟨_, rfl, _, rfl, x, T.c_Rule, dx, [], rfl, hx, T.l_Rule, T.n_Rule_mode, by show 0 < 1000; decide, ?_⟩
  refine ⟨_, rfl, _, rfl, x, T.c_Rule, dx, _, rfl, upd_same, T.l_Rule, T.n_Rule_cut, by show 1 < 1000; decide, ?_⟩
  rw [upd_upd]
  refine ⟨_, rfl, _, rfl, x, T.c_Rule, dx, _, rfl, upd_same, T.l_Rule, T.n_Rule_inner, Nat.lt_of_le_of_lt (m := 2) (Nat.le_of_eq (by kernel_rfl)) (by decide), ?_⟩
  rw [upd_upd, ruleF_put]
  exact q (rf_none b1 b2 b3)
theorem ok_rule_eq (T : Tops w K mg) : FnOk P w K mg base CX0 1 T.a_Rule_eq T.d_Rule_eq ["self", "other"] (spRuleEq K T.c_Rule) := by
  refine T.F_Rule_eq.ok sc_Rule_eq (fun vs H Q E h => ?_) (fun cdv A outer s H vs Q E hr h => ?_)
  · obtain ⟨a, b, q1, r1, rfl, _⟩ := h; rfl
  obtain ⟨a, b, q1, r1, rfl, ⟨dx, hA⟩, ⟨dy, hB⟩, q⟩ := h
  refine ⟨_, (pss_one (ps_ret (pe_and (pe_callB (C8.call_isC T.i_Rule) rfl T.z_isinstance (by decide +kernel) (pa_cons (pv 1) (pa_cons (pe_glob (v := .ref T.c_Rule) rfl T.m_Rule rfl) pa_nil))) (pe_and (pe_cmpR op_eq (pe_fld (pv 0) rfl) (pe_fld (pv 1) rfl) (nomark _)) (pe_and (pe_cmpR op_eq (pe_fld (pv 0) rfl) (pe_fld (pv 1) rfl) (nomark _)) (pe_one (pe_cmpR op_eq (pe_fld (pv 0) rfl) (pe_fld (pv 1) rfl) (nomark _)))))))), ?_⟩
  obtain ⟨x1, x2, x3⟩ := q1
  obtain ⟨y1, y2, y3⟩ := r1
  refine ⟨_, rfl, b, dy, _, rfl, hB, true, rfl, iteT ?_⟩
  refine ⟨_, rfl, a, _, dx, _, _, rfl, hA, T.l_Rule, T.n_Rule_mode, ruleF_mode .., _, rfl, b, _, dy, _, _, rfl, hB, T.l_Rule, T.n_Rule_mode, ruleF_mode .., rfl, _, rfl, ?_⟩
  by_cases c1 : x1 = y1
  · refine if_true_of (decide_eq_true (congrArg V.str c1)) ?_
    refine ⟨_, rfl, a, _, dx, _, _, rfl, hA, T.l_Rule, T.n_Rule_cut, ruleF_cut .., _, rfl, b, _, dy, _, _, rfl, hB, T.l_Rule, T.n_Rule_cut, ruleF_cut .., rfl, _, rfl, ?_⟩
    by_cases c2 : x2 = y2
    · refine if_true_of (decide_eq_true (congrArg V.bl c2)) ?_
      refine ⟨_, rfl, a, _, dx, _, _, rfl, hA, T.l_Rule, T.n_Rule_inner, ruleF_inner .., _, rfl, b, _, dy, _, _, rfl, hB, T.l_Rule, T.n_Rule_inner, ruleF_inner .., rfl, ?_⟩
      have e : decide (V.str x3 = V.str y3) = decide ((x1, x2, x3) = (y1, y2, y3)) := by
        by_cases c3 : x3 = y3
        · rw [decide_eq_true (congrArg V.str c3), decide_eq_true (by rw [c1, c2, c3])]
        · rw [decide_eq_false (fun z => c3 (V.str.inj z)), decide_eq_false (fun z => c3 (by injection z with z1 z2; injection z2))]
      show Q (.bl (decide (V.str x3 = V.str y3))) H
      rw [e]
      exact q H (Same.refl _)
    · refine if_false_of (decide_eq_false (fun z => c2 (V.bl.inj z))) ?_
      rw [decide_eq_false (fun z => c2 (by injection z with z1 z2; injection z2))] at q
      exact q H (Same.refl _)
  · refine if_false_of (decide_eq_false (fun z => c1 (V.str.inj z))) ?_
    rw [decide_eq_false (fun z => c1 (by injection z))] at q
    exact q H (Same.refl _)
theorem ok_law_rule (T : Tops w K mg) (G__law_draw : FnOk P w K mg base CX0 1 T.a__law_draw T.d__law_draw ["_law_state_here", "_law_many_here"] spDraw) :
    FnOk P w K mg base CX0 2 T.a__law_rule T.d__law_rule ["_law_state_here"] (spLawRule K) := by
  refine T.F__law_rule.ok sc_law_rule (fun vs H Q E h => ?_) (fun cdv A outer s H vs Q E hr h => ?_)
  · obtain ⟨st, sc, rfl, _⟩ := h; rfl
  obtain ⟨st, sc, rfl, ho, q⟩ := h
  refine ⟨_, (pss_cons (ps_set (i := 1) sc_law_rule.nd rfl (Or.inl rfl) (pe_ix ix_list (pe_lst (pa_cons pe_str (pa_cons pe_str (pa_cons pe_str pa_nil)))) (pe_call G__law_draw (hr.mono (by omega)) rfl T.m__law_draw T.F__law_draw.kp T.b__law_draw .nil pass0 (pa_cons (pv 0) (pa_cons pe_int pa_nil))) (fun _ _ => rfl)))
    (pss_cons (ps_set (i := 2) sc_law_rule.nd rfl (Or.inl rfl) (pe_cmpR op_eq (pe_call G__law_draw (hr.mono (by omega)) rfl T.m__law_draw T.F__law_draw.kp T.b__law_draw .nil pass0 (pa_cons (pv 0) (pa_cons pe_int pa_nil))) pe_int (nomark _)))
    (pss_one (ps_ret (pe_tup (pa_cons (pv 1) (pa_cons (pv 2) (pa_cons (pe_ix ix_list (pe_lst (pa_cons pe_str (pa_cons pe_str pa_nil))) (pe_call G__law_draw (hr.mono (by omega)) rfl T.m__law_draw T.F__law_draw.kp T.b__law_draw .nil pass0 (pa_cons (pv 0) (pa_cons pe_int pa_nil))) (fun _ _ => rfl)) pa_nil)))))))), ?_⟩
  refine ⟨by show 3 ≤ sizeLine; decide, fun p1 hp1 => ?_⟩
  have o1 := ho.new (o := .lst [V.str "push", .str "pull", .str "level"]) hp1
  have n1 := (ho.ne hp1).1
  refine ⟨_, rfl, st, sc, 3, rfl, by decide, by decide, o1, fun r1 H2 g0 g1 k2 o2 _ => ?_⟩
  obtain ⟨j, z, hz, rfl, hat⟩ := pick_at (L := modesL) g0 (by show r1 < 3; exact g1)
  refine ⟨p1, _, _, _, rfl, rfl, SqL.of (k2 _ _ n1 upd_same), hat, ?_⟩
  refine ⟨_, rfl, st, sc, 2, rfl, by decide, by decide, o2, fun r2 H3 _ _ k3 o3 _ => ?_⟩
  refine ⟨rfl, ?_⟩
  refine ⟨_, rfl, _, rfl, by show 2 ≤ sizeLine; decide, fun p4 hp4 => ?_⟩
  have o4 := o3.new (o := .lst [V.str "once", .str "later"]) hp4
  have n4 := (o3.ne hp4).1
  refine ⟨_, rfl, st, sc, 2, rfl, by decide, by decide, o4, fun r5 H5 g4 g5 k5 o5 _ => ?_⟩
  obtain ⟨j2, z2, hz2, rfl, hat2⟩ := pick_at (L := innersL) g4 (by show r5 < 2; exact g5)
  refine ⟨p4, _, _, _, rfl, rfl, SqL.of (k5 _ _ n4 upd_same), hat2, by show 3 ≤ sizeLine; decide, fun u hu => ?_⟩
  exact q u (z, _, z2) _ ((((Keep.new hp1).trans k2).trans k3).trans (((Keep.new hp4).trans k5).trans (Keep.new hu))) (o5.new hu) (List.mem_of_getElem? hz) (List.mem_of_getElem? hz2) (SqT.of upd_same)
theorem ok_law_made (T : Tops w K mg) (G_Rule_init : FnOk P w K mg base (L2.CX P w) 3 T.a_Rule_init T.d_Rule_init ["self", "mode", "cut", "inner"] (spRuleInit K T.c_Rule T.c_InvalidRule)) :
    FnOk P w K mg base CX0 5 T.a__law_made T.d__law_made ["_law_parts_here"] (spMadeR K) := by
  refine T.F__law_made.ok sc_law_made (fun vs H Q E h => ?_) (fun cdv A outer s H vs Q E hr h => ?_)
  · obtain ⟨l, v1, v2, v3, d1, d2, d3, rfl, _⟩ := h; rfl
  obtain ⟨l, v1, v2, v3, d1, d2, d3, rfl, hl, hD1, hD2, hD3, m1, m3, q, r⟩ := h
  refine ⟨_, (pss_cons (ps_set (i := 1) sc_law_made.nd rfl (Or.inl rfl) (pe_tup (pa_cons pe_str pa_nil)))
    (pss_cons (ps_try_asL rfl rfl sc_law_made.nd takes0 (fun W pn xe tk _ => (pss_cons (ps_set (i := 2) sc_law_made.nd rfl (Or.inl rfl) (pe_makeAt T.k_Rule G_Rule_init (hr.mono (by omega)) rfl T.m_Rule T.b_Rule_init (fun σ => passAt tk σ) (pa_cons (pe_ix (r := rIxL K) ix_list (pv 0) pe_int (fun _ _ => rfl)) (pa_cons (pe_ix (r := rIxL K) ix_list (pv 0) pe_int (fun _ _ => rfl)) (pa_cons (pe_ix (r := rIxL K) ix_list (pv 0) pe_int (fun _ _ => rfl)) pa_nil)))))
    (pss_one (ps_set (i := 1) sc_law_made.nd rfl (Or.inl rfl) (pe_tup (pa_cons pe_str (pa_cons (by show PE _ _ (tFld K (tVar 2) "mode"); exact pe_fld (pv 2) rfl) (pa_cons (by show PE _ _ (tFld K (tVar 2) "cut"); exact pe_fld (pv 2) rfl) (pa_cons (by show PE _ _ (tFld K (tVar 2) "inner"); exact pe_fld (pv 2) rfl) pa_nil))))))))) (Clauses.more (i := 3) rfl rfl ⟨rfl, by decide, .inl T.m_InvalidRule⟩ (fun a oe cls d pn hz hf => (pss_one (ps_set (i := 1) sc_law_made.nd rfl (Or.inl rfl) (pe_tup (pa_cons pe_str (pa_cons (pe_xf ⟨T.xa_InvalidRule, T.xg_InvalidRule, T.x_InvalidRule.exC, T.xh_InvalidRule⟩ T.n_InvalidRule_part hz hf (pv 3)) (pa_cons (pe_callB (call_isX T.xc_InvalidRule hz hf) rfl T.z_isinstance (by decide +kernel) (pa_cons (pv 3) (pa_cons (pe_glob (v := .ref T.c_ToldError) rfl T.m_ToldError rfl) pa_nil))) (pa_cons (pe_callB (call_isX T.xc_InvalidRule hz hf) rfl T.z_isinstance (by decide +kernel) (pa_cons (pv 3) (pa_cons (pe_glob (v := .ref T.c_InvalidStart) rfl T.m_InvalidStart rfl) pa_nil))) pa_nil)))))))) Clauses.none))
    (pss_one (ps_ret (pv 1))))), ?_⟩
  refine ⟨by show 1 ≤ sizeLine; decide, fun t0 ht0 => ?_⟩
  have s0 := Same.new ht0 (.tup [V.str "none"])
  try dsimp only
  generalize upd H t0 (.tup [V.str "none"]) = H1 at s0
  have hl1 := s0 _ _ hl
  refine ⟨_, rfl, l, _, 0, _, rfl, rfl, SqL.of hl1, rfl, _, rfl, l, _, 1, _, rfl, rfl, SqL.of hl1, rfl, _, rfl, l, _, 2, _, rfl, rfl, SqL.of hl1, rfl, fun x dx hx hdx hne => ?_⟩
  have s1 : Same H (upd (upd H1 dx (.own x)) x (.ins T.c_Rule dx [])) := s0.trans ((Same.new hdx (.own x)).trans (Same.new (by rw [upd_ne (Ne.symm hne)]; exact hx) _))
  refine ⟨x, dx, v1, v2, v3, d1, d2, d3, rfl, upd_same, Dp.same s1 hD1, Dp.same s1 hD2, Dp.same s1 hD3, m1, m3, fun e => ⟨rfl, ?_⟩, fun pt e => fun dd H2 s2 hd he => ?_⟩
  · rw [upd_upd]
    have s2 : Same H (upd (upd H1 dx (.own x)) x (.ins T.c_Rule dx (ruleF v1 v2 v3))) := s0.trans ((Same.new hdx (.own x)).trans (Same.new (by rw [upd_ne (Ne.symm hne)]; exact hx) _))
    refine ⟨_, rfl, x, _, dx, _, _, rfl, upd_same, T.l_Rule, T.n_Rule_mode, ruleF_mode .., _, rfl, x, _, dx, _, _, rfl, upd_same, T.l_Rule, T.n_Rule_cut, ruleF_cut .., _, rfl, x, _, dx, _, _, rfl, upd_same, T.l_Rule, T.n_Rule_inner, ruleF_inner .., by show 4 ≤ sizeLine; decide, fun u hu => ⟨_, rfl, ?_⟩⟩
    exact q e u _ (s2.trans (Same.new hu _)) (SqT.of upd_same)
  · refine ⟨true, T.xe_InvalidRule, fun _ ea hea => ?_, fun z => nomatch z⟩
    refine ⟨_, rfl, rfl, rfl, dd, _, _, rfl, he, rfl, _, rfl, rfl, dd, _, _, _, true, rfl, he, rfl, fun _ h => h, T.xk_ToldError, _, rfl, rfl, dd, _, _, _, false, rfl, he, rfl, fun _ h => h, T.xk_InvalidStart, by show 4 ≤ sizeLine; decide, fun u hu => ⟨_, rfl, ?_⟩⟩
    exact r pt e u _ ((s1.trans s2).trans (Same.new hu _)) (SqT.of upd_same)
theorem ok_law_fault (T : Tops w K mg) : FnOk P w K mg base CX0 1 T.a__law_fault T.d__law_fault ["_law_parts_here"] (spFault K) := by
  refine T.F__law_fault.ok sc_law_fault (fun vs H Q E h => ?_) (fun cdv A outer s H vs Q E hr h => ?_)
  · obtain ⟨l, v1, v2, v3, d1, d2, d3, rfl, _⟩ := h; rfl
  obtain ⟨l, v1, v2, v3, d1, d2, d3, rfl, hl, hD1, hD2, hD3, q⟩ := h
  refine ⟨_, (pss_cons (ps_if (PW.pt (pw_or (pt_not (pt_val (pe_callB call_isi rfl T.z_isinstance (by decide +kernel) (pa_cons (pe_ix ix_list (pv 0) pe_int (fun _ _ => rfl)) (pa_cons (pe_bltn (v := .ty "str") rfl T.z_str (by decide +kernel) rfl) pa_nil))))) (pw_or1 (pt_cmpR op_notIn_seq (pe_ix ix_list (pv 0) pe_int (fun _ _ => rfl)) (pe_lst (pa_cons pe_str (pa_cons pe_str (pa_cons pe_str pa_nil)))) (by rfl))))) (pss_one (ps_ret pe_str)) pss_nil)
    (pss_cons (ps_if (pt_not (pt_val (pe_callB call_isi rfl T.z_isinstance (by decide +kernel) (pa_cons (pe_ix ix_list (pv 0) pe_int (fun _ _ => rfl)) (pa_cons (pe_bltn (v := .ty "bool") rfl T.z_bool (by decide +kernel) rfl) pa_nil))))) (pss_one (ps_ret pe_str)) pss_nil)
    (pss_cons (ps_if (PW.pt (pw_or (pt_not (pt_val (pe_callB call_isi rfl T.z_isinstance (by decide +kernel) (pa_cons (pe_ix ix_list (pv 0) pe_int (fun _ _ => rfl)) (pa_cons (pe_bltn (v := .ty "str") rfl T.z_str (by decide +kernel) rfl) pa_nil))))) (pw_or1 (pt_cmpR op_notIn_seq (pe_ix ix_list (pv 0) pe_int (fun _ _ => rfl)) (pe_lst (pa_cons pe_str (pa_cons pe_str pa_nil))) (by rfl))))) (pss_one (ps_ret pe_str)) pss_nil)
    (pss_one (ps_ret pe_non))))), ?_⟩
  have nostr : ∀ {L : List Str} {d : PyData}, (strOf d).isSome = false → inStrs L d = false := fun {L d} h => by
    cases d with
    | str z => cases h
    | _ => rfl
  refine ⟨_, rfl, l, _, 0, _, rfl, rfl, SqL.of hl, rfl, v1, .ty "str", .type (tyD d1), .type "str", _, rfl, .ty _, ty_data hD1, kit_str d1, _, rfl, ?_⟩
  cases i1 : (strOf d1).isSome with
  | false =>
    have q' := q H (Same.refl _)
    rw [rf_mode (nostr i1)] at q'
    exact if_true_of rfl q'
  | true =>
  obtain ⟨z1, rfl⟩ : ∃ z, d1 = .str z := by cases d1 with | str z => exact ⟨z, rfl⟩ | _ => cases i1
  cases hD1
  refine if_false_of rfl ?_
  refine ⟨_, rfl, l, _, 0, _, rfl, rfl, SqL.of hl, rfl, by show 3 ≤ sizeLine; decide, fun p1 hp1 => ⟨p1, modesL.map V.str, rfl, .inl (SqL.of upd_same), rfl, L2.flat_strs _, _, rfl, ?_⟩⟩
  have s1 := Same.new hp1 (.lst [V.str "push", .str "pull", .str "level"])
  show (if (!inV (.str z1) (modesL.map V.str)) = true then _ else _)
  rw [inV_strs]
  by_cases c0 : z1 ∉ modesL
  · have q' := q _ s1
    rw [rf_mode (show inStrs modesL (.str z1) = false from decide_eq_false c0)] at q'
    exact if_true_of (by rw [decide_eq_false c0]; rfl) q'
  have c1 : z1 ∈ modesL := Classical.not_not.mp c0
  have b1 : inStrs modesL (.str z1) = true := decide_eq_true c1
  refine if_false_of (by rw [decide_eq_true c1]; rfl) ?_
  generalize upd H p1 (.lst [V.str "push", .str "pull", .str "level"]) = H1 at s1
  have hl1 := s1 _ _ hl
  refine ⟨_, rfl, l, _, 1, _, rfl, rfl, SqL.of hl1, rfl, v2, .ty "bool", .type (tyD d2), .type "bool", _, rfl, .ty _, ty_data (Dp.same s1 hD2), kit_bool d2, _, rfl, ?_⟩
  cases b2 : isBoolD d2 with
  | false =>
    have q' := q H1 s1
    rw [rf_cut b1 b2] at q'
    exact if_true_of rfl q'
  | true =>
  refine if_false_of rfl ?_
  refine ⟨_, rfl, l, _, 2, _, rfl, rfl, SqL.of hl1, rfl, v3, .ty "str", .type (tyD d3), .type "str", _, rfl, .ty _, ty_data (Dp.same s1 hD3), kit_str d3, _, rfl, ?_⟩
  cases i3 : (strOf d3).isSome with
  | false =>
    have q' := q H1 s1
    rw [rf_inner b1 b2 (nostr i3)] at q'
    exact if_true_of rfl q'
  | true =>
  obtain ⟨z3, rfl⟩ : ∃ z, d3 = .str z := by cases d3 with | str z => exact ⟨z, rfl⟩ | _ => cases i3
  cases hD3
  refine if_false_of rfl ?_
  refine ⟨_, rfl, l, _, 2, _, rfl, rfl, SqL.of hl1, rfl, by show 2 ≤ sizeLine; decide, fun p2 hp2 => ⟨p2, innersL.map V.str, rfl, .inl (SqL.of upd_same), rfl, L2.flat_strs _, _, rfl, ?_⟩⟩
  have s2 := s1.trans (Same.new hp2 (.lst [V.str "once", .str "later"]))
  show (if (!inV (.str z3) (innersL.map V.str)) = true then _ else _)
  rw [inV_strs]
  have q' := q _ s2
  by_cases c3 : z3 ∈ innersL
  · rw [rf_none b1 b2 (show inStrs innersL (.str z3) = true from decide_eq_true c3)] at q'
    exact if_false_of (by rw [decide_eq_true c3]; rfl) q'
  · rw [rf_inner b1 b2 (show inStrs innersL (.str z3) = false from decide_eq_false c3)] at q'
    exact if_true_of (by rw [decide_eq_false c3]; rfl) q'
end
end K09
namespace K09
open PySem PySem.Spec PyProof.Rows L2 Td
/-! ### the deeds of a program -/
/-- all writes, the sources by their places -/
def wk (p : PP) : List (Nat × Str) := (List.range p.sources.length).flatMap fun k => p.words.map fun w => (k, w)
def srcAt (p : PP) (k : Nat) : Str := p.sources.getD k Str.empty
def toW (p : PP) (a : Nat × Str) : Str × Str := (srcAt p a.1, a.2)
def wDt (p : PP) (a : Nat × Str) : PyData := wpD (toW p a)
def pairsW (p : PP) : List ((Nat × Str) × (Nat × Str)) := (wk p).flatMap fun a => ((wk p).filter fun b => decide (a.1 < b.1)).map fun b => (a, b)
def pairDt (p : PP) (q : (Nat × Str) × (Nat × Str)) : PyData := .tuple [wDt p q.1, wDt p q.2]
def listW (p : PP) : List PyData := (wk p).map fun a => .tuple [.str "write", .str (srcAt p a.1), .str a.2]
def listB (p : PP) : List PyData := (pairsW p).map fun q => .tuple [.str "batch", pairDt p q]
def listR (p : PP) : List PyData := p.derived.map fun q => .tuple [.str "read", .str q.1]
def listD (p : PP) (both : Bool) : List PyData := listW p ++ (if both = true then listB p else []) ++ listR p
def wkTo (p : PP) (n : Nat) : List (Nat × Str) := (List.range n).flatMap fun k => p.words.map fun w => (k, w)
theorem wk_to (p : PP) : wk p = wkTo p p.sources.length := rfl
theorem wkTo_succ (p : PP) (n : Nat) : wkTo p (n + 1) = wkTo p n ++ p.words.map fun w => (n, w) := by
  unfold wkTo
  rw [List.range_succ, List.flatMap_append, List.flatMap_singleton]
theorem wkTo_len (p : PP) : ∀ n, (wkTo p n).length = n * p.words.length
  | 0 => by unfold wkTo; simp
  | n + 1 => by rw [wkTo_succ, List.length_append, wkTo_len p n, List.length_map, Nat.succ_mul]
theorem srcAt_of {p : PP} {k : Nat} {z : Str} (h : p.sources[k]? = some z) : srcAt p k = z := by
  unfold srcAt
  rw [List.getD_eq_getElem?_getD, h]
  rfl
theorem mem_wk {p : PP} {a : Nat × Str} (h : a ∈ wk p) : a.1 < p.sources.length ∧ a.2 ∈ p.words := by
  unfold wk at h
  obtain ⟨k, hk, ha⟩ := List.mem_flatMap.mp h
  obtain ⟨w, hw, rfl⟩ := List.mem_map.mp ha
  exact ⟨List.mem_range.mp hk, hw⟩
theorem wk_src {p : PP} {a : Nat × Str} (h : a ∈ wk p) : p.sources[a.1]? = some (srcAt p a.1) := by
  have hl := (mem_wk h).1
  rw [List.getElem?_eq_getElem hl, srcAt_of (List.getElem?_eq_getElem hl)]
theorem wk_few {p : PP} {m : Nat} (ok : p.Ok m) : (wk p).length ≤ 16 := by
  rw [wk_to, wkTo_len]
  exact Nat.le_trans (Nat.mul_le_mul ok.s4 ok.w4) (by decide)
theorem wD_at {K : PySem.W.Frag} {H : Hp} {p : PP} {x : V} {a : Nat × Str} (h : Tn K H x (wDt p a)) : ∃ b, x = .ref b ∧ SqT K H b [.str (srcAt p a.1), .str a.2] := by
  obtain ⟨b, xs, rfl, hS, hT⟩ := Tn.tup_inv h
  cases hT with
  | cons a1 a2 =>
    cases a1
    cases a2 with
    | cons a3 a4 => cases a3; cases a4; exact ⟨b, rfl, hS⟩
theorem dget_ans {H : Hp} {a : Addr} {kvs : List (Key × V)} {k : Str} {v : V} (e : H a = some (.dK kvs)) (g : valV kvs (.inr k) = some v) : DGet H a (.str k) (some v) := by
  have h := DGet.k (k := .inr k) e
  rw [g] at h
  exact h
def prsF (p : PP) (a : Nat × Str) : List ((Nat × Str) × (Nat × Str)) := ((wk p).filter fun b => decide (a.1 < b.1)).map fun b => (a, b)
theorem take_snoc {α : Type} {L : List α} {i : Nat} {a : α} (h : L[i]? = some a) : L.take (i + 1) = L.take i ++ [a] := by rw [List.take_succ, h]; rfl
def spPairs (K : PySem.W.Frag) (CP : Addr) : Sp := fun vs H Q _ => ∃ (pa l : Addr) (xs : List V) (p : PP) (m : Nat), vs = [.ref pa, .ref l] ∧ ProgAt K H CP pa p ∧ p.Ok m ∧ H l = some (.lst xs) ∧ TnAll K H xs ((wk p).map (wDt p)) ∧
  ∀ (D : Addr) (zs : List V) H', Same H H' → H D = none → H' D = some (.lst zs) → TnAll K H' zs ((pairsW p).map (pairDt p)) → Q (.ref D) H'
def spDnames (K : PySem.W.Frag) (CP : Addr) : Sp := fun vs H Q _ => ∃ (pa : Addr) (p : PP) (m : Nat), vs = [.ref pa] ∧ ProgAt K H CP pa p ∧ p.Ok m ∧ ∀ t H', Same H H' → SqT K H' t (p.derived.map fun q => V.str q.1) → Q (.ref t) H'
def spDeeds (K : PySem.W.Frag) (CP : Addr) : Sp := fun vs H Q _ => ∃ (pa : Addr) (p : PP) (m : Nat) (both : Bool), vs = [.ref pa, .bl both] ∧ ProgAt K H CP pa p ∧ p.Ok m ∧
  ∀ (D : Addr) (zs : List V) H', Same H H' → H D = none → H' D = some (.lst zs) → TnAll K H' zs (listD p both) → Q (.ref D) H'
section
variable {P : Program} {w : World} {K : PySem.W.Frag} {mg : Str → Option Value} {base : Heap}
theorem ok_pairs (T : Tops w K mg) : FnOk P w K mg base CX0 1 T.a_pairs_of_writes T.d_pairs_of_writes ["program", "writes"] (spPairs K T.c_Program) := by
  refine T.F_pairs_of_writes.ok sc_pairs_of_writes (fun vs H Q E h => ?_) (fun cdv A outer s H vs Q E hr h => ?_)
  · obtain ⟨pa, l, xs, p, m, rfl, _⟩ := h; rfl
  obtain ⟨pa, l, xs, p, m, rfl, hP, ok, hl, hT, q⟩ := h
  obtain ⟨dx, aw, as, vd, ve, ⟨dn, en, e, hdn, hen⟩, h1, h2, h3, h4⟩ := hP.ex
  refine ⟨_, (pss_cons (ps_set (i := 2) sc_pairs_of_writes.nd rfl (Or.inr rfl) (pe_dc (own := [("place", 3), ("source", 4)]) (g := gTup K 2 (gCons (gName 3) (gCons (gName 4) gNil))) (tt := tYes) (tk := tVar 4) (tv := tVar 3) rfl sc_pairs_of_writes.nd (pi_enumT rfl T.z_enumerate (pa_cons (pe_fld (pv 0) rfl) pa_nil)) (blkOk_by (own := [("place", 3), ("source", 4)]) (N := N_pairs_of_writes) (sc := defScope s_pairs_of_writes) (by decide +kernel)) (fun _ _ _ _ _ => (pg_tup rfl (pgs_cons (pg_name (i := 3) sc_pairs_of_writes.nd rfl (Or.inl rfl)) (pgs_cons (pg_name (i := 4) sc_pairs_of_writes.nd rfl (Or.inl rfl)) pgs_nil)))) (fun _ _ _ _ _ => pts_nil) (fun _ _ _ _ _ => pv 4) (fun _ _ _ _ _ => pv 3)))
    (pss_one (ps_ret (pe_lc2 (own := [("first", 5), ("second", 6)]) (vs1 := [6]) (g := gName 5) (g1 := gName 6) (tt := tYes) (wi1 := iList K (tVar 1)) (tt1 := tTest (tOp (rI0 fun i j => .bl (decide (i < j))) (tDGet (tVar 2) (tOp (rIxT K) (tVar 5) (tC (.int 0)))) (tDGet (tVar 2) (tOp (rIxT K) (tVar 6) (tC (.int 0)))))) (te := tTup (tCons (tVar 5) (tCons (tVar 6) tNil))) rfl sc_pairs_of_writes.nd (pi_list (pv 1)) (blkOk_by (own := [("first", 5), ("second", 6)]) (N := N_pairs_of_writes) (sc := defScope s_pairs_of_writes) (by decide +kernel)) (by decide) (fun _ _ _ _ _ => (pg_name (i := 5) sc_pairs_of_writes.nd rfl (Or.inl rfl))) (fun _ _ _ _ _ => pts_nil) (fun _ _ _ _ _ => (pi_list (pv 1))) (fun _ _ _ _ _ => (pg_name (i := 6) sc_pairs_of_writes.nd rfl (Or.inl rfl))) (fun _ _ _ _ _ => pts_one (pt_cmpR op_lt (pe_dget (hu_of hr) (pv 2) (pe_ix (r := rIxT K) ix_tup (pv 5) pe_int (fun _ _ => rfl)) (fun _ _ => rfl)) (pe_dget (hu_of hr) (pv 2) (pe_ix (r := rIxT K) ix_tup (pv 6) pe_int (fun _ _ => rfl)) (fun _ _ => rfl)) (nomark _))) (fun _ _ _ _ _ => (pe_tup (pa_cons (pv 5) (pa_cons (pv 6) pa_nil)))))))), ?_⟩
  have few := wk_few ok
  have xl : xs.length = (wk p).length := by rw [hT.length, List.length_map]
  refine ⟨_, rfl, pa, _, dx, _, _, rfl, e, T.l_Program, T.n_Program_sources, progF_sources .., as, _, rfl, h2, fun P0 hP0 => walk_enumT (K := K) (a := as) (us := p.sources.map V.str) (fun i H' => ∃ kvs : List (Key × V), Same H H' ∧ H' P0 = some (.dK kvs) ∧ kvs.length ≤ i ∧ ∀ (j : Nat) (z : Str), j < i → p.sources[j]? = some z → valV kvs (.inr z) = some (.int (j : Nat)))
    ⟨[], Same.new hP0 _, upd_same, Nat.le_refl _, fun j z h => absurd h (Nat.not_lt_zero j)⟩ (fun i H' _ ⟨_, hs, _⟩ => SqT.same hs h2) ?_ ?_⟩
  · rintro i x H3 t hx ⟨kvs, s3, hk, kl, hg⟩ ht
    rw [List.getElem?_map] at hx
    obtain ⟨z, hz, rfl⟩ := Option.map_eq_some_iff.mp hx
    have il : i < p.sources.length := (List.getElem?_eq_some_iff.mp hz).1
    have s4' := ok.s4
    have s4 := Same.new ht (.tup [.int (i : Nat), .str z])
    refine ⟨t, _, rfl, SqT.of upd_same, rfl, _, _, rfl, _, _, rfl, rfl, rfl, tYes_of ?_⟩
    refine ⟨_, rfl, _, rfl, kvs, .inr z, rfl, s4 _ _ hk, small1000 (by omega), putK kvs (.inr z) (.int (i : Nat)), K09.Same.own (s3.trans s4) hP0, upd_same, by have := length_putK kvs (.inr z) (V.int (i : Nat)); omega, fun j y hj hy => ?_⟩
    by_cases en : y = z
    · subst en
      have : j = i := by
        have nnd : p.sources.Nodup := by
          have := ok.nn.nd
          unfold PP.names at this
          exact (List.nodup_append.mp (List.nodup_append.mp this).1).1
        have hjl := (List.getElem?_eq_some_iff.mp hy).1
        exact (List.getElem?_inj hjl nnd).mp (hy.trans hz.symm)
      subst this
      rw [valV_put, if_pos rfl]
    · rw [valV_put, if_neg (fun q => en (by injection q))]
      refine hg j y ?_ hy
      rcases Nat.lt_or_eq_of_le (Nat.le_of_lt_succ hj) with h | h
      · exact h
      · subst h; rw [hz] at hy; cases hy; exact absurd rfl en
  rintro H3 ⟨kvs, s3, hk, kl, hg⟩
  rw [List.length_map] at hg
  have hl3 := s3 _ _ hl
  have look : ∀ a ∈ wk p, valV kvs (.inr (srcAt p a.1)) = some (.int (a.1 : Nat)) := fun a ha => hg a.1 _ (mem_wk ha).1 (wk_src ha)
  refine ⟨_, rfl, l, rfl, ⟨_, SqL.of hl3⟩, fun D hD => walk_list (K := K) (a := l) (us := xs) (fun i H' => ∃ zs : List V, Same H3 H' ∧ H' D = some (.lst zs) ∧ zs.length ≤ 16 * i ∧ TnAll K H' zs ((((wk p).take i).flatMap (prsF p)).map (pairDt p)))
    ⟨[], Same.new hD _, upd_same, Nat.le_refl _, .nil⟩ (fun i H' _ ⟨_, hs, _⟩ => SqL.of (hs _ _ hl3)) ?_ ?_⟩
  · rintro k x H4 hx ⟨zs, s4, hz, zl, hzT⟩
    obtain ⟨d0, hd1, hd2⟩ := (TnAll.keep (TK.of_same (s3.trans s4)) hT).get hx
    rw [List.getElem?_map] at hd1
    obtain ⟨a, ha, rfl⟩ := Option.map_eq_some_iff.mp hd1
    obtain ⟨ba, rfl, hA⟩ := wD_at hd2
    have ka : k < (wk p).length := (List.getElem?_eq_some_iff.mp ha).1
    refine ⟨rfl, tYes_of ?_⟩
    refine ⟨_, rfl, l, rfl, ⟨_, SqL.of (s4 _ _ hl3)⟩, walk_list (K := K) (a := l) (us := xs) (fun j H' => ∃ zs : List V, Same H3 H' ∧ TK H4 H' ∧ H' D = some (.lst zs) ∧ zs.length ≤ 16 * k + j ∧ TnAll K H' zs ((((wk p).take k).flatMap (prsF p) ++ (((wk p).take j).filter fun b => decide (a.1 < b.1)).map fun b => (a, b)).map (pairDt p)))
      ⟨zs, s4, TK.refl _, hz, by omega, by simpa using hzT⟩ (fun j H' _ ⟨_, hs, _⟩ => SqL.of (hs _ _ hl3)) ?_ ?_⟩
    · rintro j y H5 hy ⟨zs5, s5, s45, hz5, zl5, hzT5⟩
      obtain ⟨d1, he1, he2⟩ := (TnAll.keep (TK.of_same (s3.trans s5)) hT).get hy
      rw [List.getElem?_map] at he1
      obtain ⟨b, hb, rfl⟩ := Option.map_eq_some_iff.mp he1
      obtain ⟨bb, rfl, hB⟩ := wD_at he2
      have jb : j < (wk p).length := (List.getElem?_eq_some_iff.mp hb).1
      have hk5 := s5 _ _ hk
      have hA5 := SqT.tk s45 hA
      refine ⟨rfl, ?_⟩
      refine ⟨_, rfl, _, rfl, ba, _, 0, _, rfl, rfl, hA5, rfl, P0, _, rfl, dget_ans hk5 (look a (List.mem_of_getElem? ha)), _, rfl, _, rfl, bb, _, 0, _, rfl, rfl, hB, rfl, P0, _, rfl, dget_ans hk5 (look b (List.mem_of_getElem? hb)), _, _, rfl, rfl, _, rfl, ?_⟩
      by_cases lt : a.1 < b.1
      · refine if_true_of (decide_eq_true (by omega)) ?_
        refine ⟨_, rfl, _, rfl, by show 2 ≤ sizeLine; decide, fun t ht => ?_⟩
        have s6 := Same.new ht (.tup [V.ref ba, .ref bb])
        have s46 := s5.trans s6
        have hz6 := s6 _ _ hz5
        have tk : TK (upd H5 t (.tup [V.ref ba, .ref bb])) (upd (upd H5 t (.tup [V.ref ba, .ref bb])) D (.lst (zs5 ++ [.ref t]))) := TK.upd (by rw [hz6]; trivial)
        refine ⟨zs5, hz6, small1000 (by omega), zs5 ++ [.ref t], K09.Same.own s46 hD, (s45.trans (TK.of_same s6)).trans tk, upd_same, by rw [List.length_append]; show zs5.length + 1 ≤ _; omega, ?_⟩
        · have e3 : ((wk p).take (j + 1)).filter (fun b => decide (a.1 < b.1)) = ((wk p).take j).filter (fun b => decide (a.1 < b.1)) ++ [b] := by
            rw [take_snoc hb, List.filter_append, List.filter_cons_of_pos (by exact decide_eq_true lt)]; rfl
          rw [e3, List.map_append (f := fun b => (a, b)), ← List.append_assoc, List.map_append (f := pairDt p)]
          refine TnAll.append (TnAll.keep ((TK.of_same s6).trans tk) hzT5) (TnAll.one ?_)
          refine Tn.keep tk (Tn.new ?_ ht)
          exact .cons (.tup hA5 (.cons (.str _) (.cons (.str _) .nil))) (.cons (.tup hB (.cons (.str _) (.cons (.str _) .nil))) .nil)
      · refine if_false_of (decide_eq_false (by omega)) ⟨zs5, s5, s45, hz5, by omega, ?_⟩
        rw [take_snoc hb, List.filter_append, List.filter_cons_of_neg (by simpa using lt), List.filter_nil, List.append_nil]
        exact hzT5
    · rintro H5 ⟨zs5, s5, s45, hz5, zl5, hzT5⟩
      rw [xl] at zl5 hzT5
      rw [List.take_length] at hzT5
      refine ⟨zs5, s5, hz5, by omega, ?_⟩
      rw [take_snoc ha, List.flatMap_append, List.flatMap_singleton]
      exact hzT5
  · rintro H4 ⟨zs, s4, hz, zl, hzT⟩
    rw [xl, List.take_length] at hzT
    exact q D zs H4 (s3.trans s4) (by
      cases z : H D with
      | none => rfl
      | some o => rw [s3 _ _ z] at hD; cases hD) hz hzT
theorem ok_dnames (T : Tops w K mg) : FnOk P w K mg base CX0 1 T.a_Program_derived_names T.d_Program_derived_names ["self"] (spDnames K T.c_Program) := by
  refine T.F_Program_derived_names.ok sc_Program_derived_names (fun vs H Q E h => ?_) (fun cdv A outer s H vs Q E hr h => ?_)
  · obtain ⟨pa, p, m, rfl, _⟩ := h; rfl
  obtain ⟨pa, p, m, rfl, hP, ok, q⟩ := h
  obtain ⟨dx, aw, as, vd, ve, ⟨dn, en, e, hdn, hen⟩, h1, h2, h3, h4⟩ := hP.ex
  refine ⟨_, (pss_one (ps_ret (pe_fld (pv 0) rfl))), ?_⟩
  exact ⟨_, rfl, pa, _, dx, _, _, rfl, e, T.l_Program, T.n_Program__derived_names, progF_dn .., q dn H (Same.refl _) hdn⟩
theorem ok_deeds (T : Tops w K mg) (G_pairs_of_writes : FnOk P w K mg base CX0 1 T.a_pairs_of_writes T.d_pairs_of_writes ["program", "writes"] (spPairs K T.c_Program))
    (G_Program_derived_names : FnOk P w K mg base CX0 1 T.a_Program_derived_names T.d_Program_derived_names ["self"] (spDnames K T.c_Program)) :
    FnOk P w K mg base CX0 2 T.a_deeds T.d_deeds ["program", "batches"] (spDeeds K T.c_Program) := by
  refine T.F_deeds.ok sc_deeds (fun vs H Q E h => ?_) (fun cdv A outer s H vs Q E hr h => ?_)
  · obtain ⟨pa, p, m, both, rfl, _⟩ := h; rfl
  obtain ⟨pa, p, m, both, rfl, hP, ok, q⟩ := h
  obtain ⟨dx, aw, as, vd, ve, ⟨dn, en, e, hdn, hen⟩, h1, h2, h3, h4⟩ := hP.ex
  refine ⟨_, (pss_cons (ps_setLc2 (i := 2) (own := [("source", 4), ("word", 5)]) (vs1 := [5]) (g := gName 4) (g1 := gName 5) (tt := tYes) (tt1 := tYes) (wi1 := iTup K (tFld K (tVar 0) "words")) (te := tTup (tCons (tVar 4) (tCons (tVar 5) tNil))) rfl sc_deeds.nd rfl rfl (sw_true rfl rfl rfl (by decide +kernel)) (pi_tup (pe_fld (pv 0) rfl)) (blkOk_by (own := [("source", 4), ("word", 5)]) (N := N_deeds) (sc := defScope s_deeds) (by decide +kernel)) (by decide) (fun _ _ _ _ _ => (pg_name (i := 4) sc_deeds.nd rfl (Or.inl rfl))) (fun _ _ _ _ _ => pts_nil) (fun _ _ _ _ _ => (pi_tup (pe_fld (pv 0) rfl))) (fun _ _ _ _ _ => (pg_name (i := 5) sc_deeds.nd rfl (Or.inl rfl))) (fun _ _ _ _ _ => pts_nil) (fun _ _ _ _ _ => (pe_tup (pa_cons (pv 4) (pa_cons (pv 5) pa_nil)))))
    (pss_cons (ps_setLc (i := 3) (own := [(("source" : Str), 4), (("word" : Str), 5)]) (wi := (iList K (tVar 2))) (g := gTup K 2 (gCons (gName 4) (gCons (gName 5) gNil))) (tt := tYes) (te := (tTup (tCons (tC (.str "write")) (tCons (tVar 4) (tCons (tVar 5) tNil))))) rfl sc_deeds.nd rfl rfl (sw_true rfl rfl rfl (by decide +kernel)) (pi_list (pv 2)) (blkOk_by (own := [(("source" : Str), 4), (("word" : Str), 5)]) (N := N_deeds) (sc := defScope s_deeds) (by decide +kernel)) (fun _ _ _ _ _ => (pg_tup rfl (pgs_cons (pg_name (i := 4) sc_deeds.nd rfl (Or.inl rfl)) (pgs_cons (pg_name (i := 5) sc_deeds.nd rfl (Or.inl rfl)) pgs_nil)))) (fun _ _ _ _ _ => pts_nil) (fun _ _ _ _ _ => (pe_tup (pa_cons pe_str (pa_cons (pv 4) (pa_cons (pv 5) pa_nil))))))
    (C8.pss_cut (ps_if (pt_val (pv 1)) (pss_one (ps_expr (pe_bm PySem.F.plainAttrs_list PySem.F.slot_list_extend PySem.F.type_list_extend mt_extend (pv 3) (pa_cons (pe_lc (own := [(("pair" : Str), 7)]) (wi := (iList K (tCall (spPairs K T.c_Program) [] E0 (tCons (tVar 0) (tCons (tVar 2) tNil))))) (g := gName 7) (tt := tYes) (te := (tTup (tCons (tC (.str "batch")) (tCons (tVar 7) tNil)))) rfl sc_deeds.nd (pi_list (pe_call G_pairs_of_writes (hr.mono (by omega)) rfl T.m_pairs_of_writes T.F_pairs_of_writes.kp T.b_pairs_of_writes .nil pass0 (pa_cons (pv 0) (pa_cons (pv 2) pa_nil)))) (blkOk_by (own := [(("pair" : Str), 7)]) (N := N_deeds) (sc := defScope s_deeds) (by decide +kernel)) (fun _ _ _ _ _ => (pg_name (i := 7) sc_deeds.nd rfl (Or.inl rfl))) (fun _ _ _ _ _ => pts_nil) (fun _ _ _ _ _ => (pe_tup (pa_cons pe_str (pa_cons (pv 7) pa_nil))))) pa_nil)))) pss_nil)
    (pss_cons (ps_expr (pe_bm PySem.F.plainAttrs_list PySem.F.slot_list_extend PySem.F.type_list_extend mt_extend (pv 3) (pa_cons (pe_lc (own := [(("name" : Str), 6)]) (wi := (iTup K (tMeth T.c_Program "derived_names" (spDnames K T.c_Program) [] E0 (tVar 0) tNil))) (g := gName 6) (tt := tYes) (te := (tTup (tCons (tC (.str "read")) (tCons (tVar 6) tNil)))) rfl sc_deeds.nd (pi_tup (pe_meth0 (pv 0) T.l_Program T.t_Program_derived_names G_Program_derived_names (hr.mono (by omega)) T.b_Program_derived_names .nil pass0)) (blkOk_by (own := [(("name" : Str), 6)]) (N := N_deeds) (sc := defScope s_deeds) (by decide +kernel)) (fun _ _ _ _ _ => (pg_name (i := 6) sc_deeds.nd rfl (Or.inl rfl))) (fun _ _ _ _ _ => pts_nil) (fun _ _ _ _ _ => (pe_tup (pa_cons pe_str (pa_cons (pv 6) pa_nil))))) pa_nil)))
    (pss_one (ps_ret (pv 3))))))), ?_⟩
  have s4' := ok.s4; have w4 := ok.w4; have d6 := ok.d6
  have few := wk_few ok
  refine ⟨_, rfl, pa, _, dx, _, _, rfl, e, T.l_Program, T.n_Program_sources, progF_sources .., as, rfl, ⟨_, h2⟩, fun L hL => walk_tup (K := K) (a := as) (us := p.sources.map V.str) (fun i H' => ∃ zs : List V, Same H H' ∧ H' L = some (.lst zs) ∧ zs.length ≤ 4 * i ∧ TnAll K H' zs ((wkTo p i).map (wDt p)))
    ⟨[], Same.new hL _, upd_same, Nat.le_refl _, .nil⟩ (fun i H' _ ⟨_, hs, _⟩ => SqT.same hs h2) ?_ ?_⟩
  · rintro k x H3 hx ⟨zs, s3, hz, zl, hzT⟩
    rw [List.getElem?_map] at hx
    obtain ⟨s, hs, rfl⟩ := Option.map_eq_some_iff.mp hx
    have kl : k < p.sources.length := (List.getElem?_eq_some_iff.mp hs).1
    refine ⟨rfl, tYes_of ?_⟩
    refine ⟨_, rfl, pa, _, dx, _, _, rfl, s3 _ _ e, T.l_Program, T.n_Program_words, progF_words .., aw, rfl, ⟨_, SqT.same s3 h1⟩, walk_tup (K := K) (a := aw) (us := p.words.map V.str) (fun j H' => ∃ zs : List V, Same H H' ∧ H' L = some (.lst zs) ∧ zs.length ≤ 4 * k + j ∧ TnAll K H' zs ((wkTo p k ++ (p.words.take j).map fun w => (k, w)).map (wDt p)))
      ⟨zs, s3, hz, by omega, by simpa using hzT⟩ (fun j H' _ ⟨_, hs, _⟩ => SqT.same hs h1) ?_ ?_⟩
    · rintro j y H5 hy ⟨zs5, s5, hz5, zl5, hzT5⟩
      rw [List.getElem?_map] at hy
      obtain ⟨w0, hw, rfl⟩ := Option.map_eq_some_iff.mp hy
      have jl : j < p.words.length := (List.getElem?_eq_some_iff.mp hw).1
      refine ⟨rfl, tYes_of ?_⟩
      refine ⟨_, rfl, _, rfl, by show 2 ≤ sizeLine; decide, fun t ht => ?_⟩
      have s6 := Same.new ht (.tup [V.str s, .str w0])
      have hz6 := s6 _ _ hz5
      have tk : TK (upd H5 t (.tup [V.str s, .str w0])) (upd (upd H5 t (.tup [V.str s, .str w0])) L (.lst (zs5 ++ [.ref t]))) := TK.upd (by rw [hz6]; trivial)
      refine ⟨zs5, hz6, small1000 (by omega), zs5 ++ [.ref t], K09.Same.own (s5.trans s6) hL, upd_same, by rw [List.length_append]; show zs5.length + 1 ≤ _; omega, ?_⟩
      rw [take_snoc hw, List.map_append (f := fun w => (k, w)), ← List.append_assoc, List.map_append (f := wDt p)]
      refine TnAll.append (TnAll.keep ((TK.of_same s6).trans tk) hzT5) (TnAll.one (Tn.keep tk ?_))
      have : wDt p (k, w0) = .tuple [.str s, .str w0] := by unfold wDt toW wpD; rw [srcAt_of hs]
      rw [this]
      exact Tn.new (.cons (.str _) (.cons (.str _) .nil)) ht
    · rintro H5 ⟨zs5, s5, hz5, zl5, hzT5⟩
      rw [List.length_map] at zl5 hzT5
      rw [List.take_length] at hzT5
      exact ⟨zs5, s5, hz5, by omega, by rw [wkTo_succ]; exact hzT5⟩
  rintro H3 ⟨xs, s3, hl, xl4, hT⟩
  rw [List.length_map, ← wk_to] at hT
  have xl : xs.length = (wk p).length := by rw [hT.length, List.length_map]
  -- the writes
  refine ⟨_, rfl, L, rfl, ⟨_, SqL.of hl⟩, fun F hF => lc_list (K := K) (a := L) (xs := xs) (fun i H' => ∃ zs : List V, Same H3 H' ∧ H' F = some (.lst zs) ∧ zs.length = i ∧ TnAll K H' zs (((wk p).take i).map fun a => .tuple [.str "write", .str (srcAt p a.1), .str a.2]))
    ⟨[], Same.new hF _, upd_same, rfl, .nil⟩ (fun i H' _ ⟨_, hs, _⟩ => SqL.of (hs _ _ hl)) ?_ ?_⟩
  · rintro i x H4 hx ⟨zs, s4, hz, zl, hzT⟩
    obtain ⟨d0, hd1, hd2⟩ := (TnAll.keep (TK.of_same s4) hT).get hx
    rw [List.getElem?_map] at hd1
    obtain ⟨a, ha, rfl⟩ := Option.map_eq_some_iff.mp hd1
    obtain ⟨ba, rfl, hA⟩ := wD_at hd2
    have il := (List.getElem?_eq_some_iff.mp ha).1
    refine ⟨ba, _, rfl, hA, rfl, _, _, rfl, _, _, rfl, rfl, rfl, tYes_of ?_⟩
    refine ⟨_, rfl, _, rfl, by show 3 ≤ sizeLine; decide, fun t ht => ?_⟩
    have s5 := Same.new ht (.tup [V.str "write", .str (srcAt p a.1), .str a.2])
    have hz5 := s5 _ _ hz
    refine ⟨zs, hz5, small1000 (by omega), zs ++ [.ref t], K09.Same.own (s4.trans s5) hF, upd_same, by rw [List.length_append, zl]; rfl, ?_⟩
    rw [take_snoc ha, List.map_append]
    have tk : TK (upd H4 t (.tup [V.str "write", .str (srcAt p a.1), .str a.2])) (upd (upd H4 t (.tup [V.str "write", .str (srcAt p a.1), .str a.2])) F (.lst (zs ++ [.ref t]))) := TK.upd (by rw [hz5]; trivial)
    exact TnAll.append (TnAll.keep ((TK.of_same s5).trans tk) hzT) (TnAll.one (Tn.keep tk (Tn.new (.cons (.str _) (.cons (.str _) (.cons (.str _) .nil))) ht)))
  rintro H4 ⟨zs, s4, hz, zl, hzT⟩
  rw [xl, List.take_length] at hzT
  have s34 := s3.trans s4
  have hl4 := s4 _ _ hl
  have hFH : H F = none := by
    cases z : H F with
    | none => rfl
    | some o => rw [s3 _ _ z] at hF; cases hF
  have hT4 := TnAll.keep (TK.of_same s4) hT
  refine ⟨fun σ' H' => ∃ zs' : List V, σ' = [some (.ref pa), some (.bl both), some (.ref L), some (.ref F), none, none, none, none] ∧ Same H H' ∧ H' F = some (.lst zs') ∧ zs'.length ≤ 400 ∧ TnAll K H' zs' (listW p ++ if both = true then listB p else []), ?_, ?_⟩
  · refine ⟨_, rfl, _, rfl, ?_⟩
    cases both with
    | false => exact if_false_of rfl ⟨zs, rfl, s34, hz, by omega, by rw [if_neg (by decide), List.append_nil]; exact hzT⟩
    | true =>
    refine if_true_of rfl ?_
    refine ⟨_, rfl, .inl ⟨rfl, _, SqL.of hz⟩, _, rfl, _, rfl, pa, L, xs, p, m, rfl, hP.same s34, ok, hl4, hT4, fun D2 ys H5 s5 f2 e2 hT2 => ⟨D2, rfl, ⟨_, SqL.of e2⟩, fun D3 hD3 => ?_⟩⟩
    have yl : ys.length = (pairsW p).length := by rw [hT2.length, List.length_map]
    have pfew : (pairsW p).length ≤ 256 := by
      have : ∀ (l : List (Nat × Str)), (l.flatMap fun a => ((wk p).filter fun b => decide (a.1 < b.1)).map fun b => (a, b)).length ≤ l.length * 16 := fun l => by
        induction l with
        | nil => simp
        | cons a l ih =>
          rw [List.flatMap_cons, List.length_append, List.length_map, List.length_cons]
          have := List.length_filter_le (fun b => decide (a.1 < b.1)) (wk p)
          omega
      have := this (wk p)
      unfold pairsW
      omega
    refine lc_list (K := K) (a := D2) (xs := ys) (fun i H' => ∃ us : List V, Same H5 H' ∧ H' D3 = some (.lst us) ∧ us.length = i ∧ TnAll K H' us (((pairsW p).take i).map fun q => .tuple [.str "batch", pairDt p q]))
      ⟨[], Same.new hD3 _, upd_same, rfl, .nil⟩ (fun i H' _ ⟨_, hs, _⟩ => SqL.of (hs _ _ e2)) ?_ ?_
    · rintro i x H6 hx ⟨us, s6, hu, ul, huT⟩
      obtain ⟨d0, hd1, hd2⟩ := (TnAll.keep (TK.of_same s6) hT2).get hx
      rw [List.getElem?_map] at hd1
      obtain ⟨qq, hqq, rfl⟩ := Option.map_eq_some_iff.mp hd1
      have il := (List.getElem?_eq_some_iff.mp hqq).1
      refine ⟨rfl, tYes_of ?_⟩
      refine ⟨_, rfl, by show 2 ≤ sizeLine; decide, fun t ht => ?_⟩
      have s7 := Same.new ht (.tup [V.str "batch", x])
      have hu7 := s7 _ _ hu
      refine ⟨us, hu7, small1000 (by omega), us ++ [.ref t], K09.Same.own (s6.trans s7) hD3, upd_same, by rw [List.length_append, ul]; rfl, ?_⟩
      rw [take_snoc hqq, List.map_append]
      have tk : TK (upd H6 t (.tup [V.str "batch", x])) (upd (upd H6 t (.tup [V.str "batch", x])) D3 (.lst (us ++ [.ref t]))) := TK.upd (by rw [hu7]; trivial)
      exact TnAll.append (TnAll.keep ((TK.of_same s7).trans tk) huT) (TnAll.one (Tn.keep tk (Tn.new (.cons (.str _) (.cons hd2 .nil)) ht)))
    · rintro H6 ⟨us, s6, hu, ul, huT⟩
      rw [yl] at ul huT
      rw [List.take_length] at huT
      have s56 := s5.trans s6
      have hz6 := s56 _ _ hz
      refine ⟨F, D3, zs, us, rfl, rfl, hz6, hu, Nat.le_of_lt (small1000 (by omega)), ?_⟩
      have tk : TK H6 (upd H6 F (.lst (zs ++ us))) := TK.upd (by rw [hz6]; trivial)
      refine ⟨zs ++ us, rfl, K09.Same.own (s34.trans s56) hFH, upd_same, by rw [List.length_append]; omega, ?_⟩
      rw [if_pos rfl]
      exact TnAll.append (TnAll.keep ((TK.of_same s56).trans tk) hzT) (TnAll.keep tk huT)
  rintro _ H5 ⟨zs', rfl, s5, hz5, zl5, hzT5⟩
  refine ⟨_, rfl, .inl ⟨rfl, _, SqL.of hz5⟩, _, rfl, pa, dx, _, rfl, s5 _ _ e, by kernel_rfl, pa, p, m, rfl, hP.same s5, ok, fun dt H6 s6 hdt => ⟨dt, rfl, ⟨_, hdt⟩, fun D3 hD3 => ?_⟩⟩
  refine lc_tup (K := K) (a := dt) (xs := p.derived.map fun q => V.str q.1) (fun i H' => ∃ us : List V, Same H6 H' ∧ H' D3 = some (.lst us) ∧ us.length = i ∧ TnAll K H' us ((p.derived.take i).map fun q => .tuple [.str "read", .str q.1]))
    ⟨[], Same.new hD3 _, upd_same, rfl, .nil⟩ (fun i H' _ ⟨_, hs, _⟩ => SqT.same hs hdt) ?_ ?_
  · rintro i x H7 hx ⟨us, s7, hu, ul, huT⟩
    rw [List.getElem?_map] at hx
    obtain ⟨qq, hqq, rfl⟩ := Option.map_eq_some_iff.mp hx
    have il := (List.getElem?_eq_some_iff.mp hqq).1
    refine ⟨rfl, tYes_of ?_⟩
    refine ⟨_, rfl, by show 2 ≤ sizeLine; decide, fun t ht => ?_⟩
    have s8 := Same.new ht (.tup [V.str "read", .str qq.1])
    have hu8 := s8 _ _ hu
    refine ⟨us, hu8, small1000 (by omega), us ++ [.ref t], K09.Same.own (s7.trans s8) hD3, upd_same, by rw [List.length_append, ul]; rfl, ?_⟩
    rw [take_snoc hqq, List.map_append]
    have tk : TK (upd H7 t (.tup [V.str "read", .str qq.1])) (upd (upd H7 t (.tup [V.str "read", .str qq.1])) D3 (.lst (us ++ [.ref t]))) := TK.upd (by rw [hu8]; trivial)
    exact TnAll.append (TnAll.keep ((TK.of_same s8).trans tk) huT) (TnAll.one (Tn.keep tk (Tn.new (.cons (.str _) (.cons (.str _) .nil)) ht)))
  · rintro H7 ⟨us, s7, hu, ul, huT⟩
    rw [List.length_map] at ul huT
    rw [List.take_length] at huT
    have s67 := s6.trans s7
    have hz7 := s67 _ _ hz5
    have tk : TK H7 (upd H7 F (.lst (zs' ++ us))) := TK.upd (by rw [hz7]; trivial)
    refine ⟨F, D3, zs', us, rfl, rfl, hz7, hu, Nat.le_of_lt (small1000 (by omega)), ?_⟩
    exact ⟨_, rfl, q F _ _ (K09.Same.own (s5.trans s67) hFH) hFH upd_same (TnAll.append (TnAll.keep ((TK.of_same s67).trans tk) hzT5) (TnAll.keep tk huT))⟩
end
end K09
namespace K09
open PySem PySem.Spec PyProof.Rows L2 Td
def spListed (K : PySem.W.Frag) : Sp := fun vs H Q _ => ∃ (v : V) (p : PP) (m : Nat) (both : Bool), vs = [v, .bl both] ∧ Tn K H v p.data ∧ p.Ok m ∧
  ∀ (D : Addr) (zs : List V) H', Same H H' → H D = none → H' D = some (.lst zs) → TnAll K H' zs (listD p both) → Q (.ref D) H'
def idxD (a : Nat × Str) : PyData := .tuple [.int (a.1 : Nat), .str a.2]
theorem idx_at {K : PySem.W.Frag} {H : Hp} {x : V} {a : Nat × Str} (h : Tn K H x (idxD a)) : ∃ b, x = .ref b ∧ SqT K H b [.int (a.1 : Nat), .str a.2] := by
  obtain ⟨b, xs, rfl, hS, hT⟩ := Tn.tup_inv h
  cases hT with
  | cons a1 a2 =>
    cases a1
    cases a2 with
    | cons a3 a4 => cases a3; cases a4; exact ⟨b, rfl, hS⟩
def wrDt (p : PP) (a : Nat × Str) : PyData := .tuple [.str "write", .str (srcAt p a.1), .str a.2]
def btDt (p : PP) (q : (Nat × Str) × (Nat × Str)) : PyData := .tuple [.str "batch", pairDt p q]
theorem prs_few {p : PP} {m : Nat} (ok : p.Ok m) (a : Nat × Str) : (prsF p a).length ≤ 16 := by
  unfold prsF
  rw [List.length_map]
  exact Nat.le_trans (List.length_filter_le _ _) (wk_few ok)
section
variable {P : Program} {w : World} {K : PySem.W.Frag} {mg : Str → Option Value} {base : Heap}
theorem ok_law_listed (T : Tops w K mg) : FnOk P w K mg base CX0 1 T.a__law_listed T.d__law_listed ["_law_parts_here", "_law_both"] (spListed K) := by
  refine T.F__law_listed.ok sc_law_listed (fun vs H Q E h => ?_) (fun cdv A outer s H vs Q E hr h => ?_)
  · obtain ⟨v, p, m, both, rfl, _⟩ := h; rfl
  obtain ⟨v, p, m, both, rfl, hD, ok, q⟩ := h
  obtain ⟨pa, aw, as, vd, ve, rfl, hP, hW, hS, hd, he⟩ := parts_at hD
  obtain ⟨ad, xd, rfl, hA, hX⟩ := Tn.tup_inv hd
  refine ⟨_, (pss_cons (ps_set (i := 2) sc_law_listed.nd rfl (Or.inl rfl) (pe_lst pa_nil))
    (pss_cons (ps_set (i := 3) sc_law_listed.nd rfl (Or.inl rfl) (pe_lst pa_nil))
    (pss_cons (ps_for PassesOwn.never rfl (pi_range1 rfl T.z_range (pa_cons (pe_callB call_len rfl T.z_len PySem.boot_len (pa_cons (pe_ix ix_tup (pv 0) pe_int (fun _ _ => rfl)) pa_nil)) pa_nil)) (pg_name (i := 4) sc_law_listed.nd rfl (Or.inl rfl)) (pss_one (ps_for PassesOwn.never rfl (pi_tup (pe_ix ix_tup (pv 0) pe_int (fun _ _ => rfl))) (pg_name (i := 5) sc_law_listed.nd rfl (Or.inl rfl)) (pss_cons (ps_expr (pe_bm PySem.F.plainAttrs_list PySem.F.slot_list_append PySem.F.type_list_append mt_append (pv 3) (pa_cons (pe_tup (pa_cons (pv 4) (pa_cons (pv 5) pa_nil))) pa_nil)))
    (pss_one (ps_expr (pe_bm PySem.F.plainAttrs_list PySem.F.slot_list_append PySem.F.type_list_append mt_append (pv 2) (pa_cons (pe_tup (pa_cons pe_str (pa_cons (pe_ix ix_tup (pe_ix ix_tup (pv 0) pe_int (fun _ _ => rfl)) (pv 4) (fun _ _ => rfl)) (pa_cons (pv 5) pa_nil)))) pa_nil))))))))
    (C8.pss_cut (ps_if (pt_val (pv 1)) (pss_one (ps_for PassesOwn.never rfl (pi_list (pv 3)) (pg_name (i := 6) sc_law_listed.nd rfl (Or.inl rfl)) (pss_one (ps_for PassesOwn.never rfl (pi_list (pv 3)) (pg_name (i := 7) sc_law_listed.nd rfl (Or.inl rfl)) (pss_one (ps_if (pt_cmpR op_lt (pe_ix ix_tup (pv 6) pe_int (fun _ _ => rfl)) (pe_ix ix_tup (pv 7) pe_int (fun _ _ => rfl)) (nomark _)) (pss_cons (ps_set (i := 8) sc_law_listed.nd rfl (Or.inl rfl) (pe_tup (pa_cons (pe_ix ix_tup (pe_ix ix_tup (pv 0) pe_int (fun _ _ => rfl)) (pe_ix ix_tup (pv 6) pe_int (fun _ _ => rfl)) (fun _ _ => rfl)) (pa_cons (pe_ix ix_tup (pv 6) pe_int (fun _ _ => rfl)) pa_nil))))
    (pss_one (ps_expr (pe_bm PySem.F.plainAttrs_list PySem.F.slot_list_append PySem.F.type_list_append mt_append (pv 2) (pa_cons (pe_tup (pa_cons pe_str (pa_cons (pe_tup (pa_cons (pv 8) (pa_cons (pe_tup (pa_cons (pe_ix ix_tup (pe_ix ix_tup (pv 0) pe_int (fun _ _ => rfl)) (pe_ix ix_tup (pv 7) pe_int (fun _ _ => rfl)) (fun _ _ => rfl)) (pa_cons (pe_ix ix_tup (pv 7) pe_int (fun _ _ => rfl)) pa_nil))) pa_nil))) pa_nil))) pa_nil))))) pss_nil)))))) pss_nil)
    (pss_one (ps_ret (pe_op op_cat (pv 2) (pe_lc (own := [(("_law_pair_here" : Str), 8)]) (wi := (iTup K (tOp (rIxT K) (tVar 0) (tC (.int 2))))) (g := gName 8) (tt := tYes) (te := (tTup (tCons (tC (.str "read")) (tCons (tOp (rIxT K) (tVar 8) (tC (.int 0))) tNil)))) rfl sc_law_listed.nd (pi_tup (pe_ix ix_tup (pv 0) pe_int (fun _ _ => rfl))) (blkOk_by (own := [(("_law_pair_here" : Str), 8)]) (N := N_law_listed) (sc := defScope s_law_listed) (by decide +kernel)) (fun _ _ _ _ _ => (pg_name (i := 8) sc_law_listed.nd rfl (Or.inl rfl))) (fun _ _ _ _ _ => pts_nil) (fun _ _ _ _ _ => (pe_tup (pa_cons pe_str (pa_cons (pe_ix (r := (rIxT K)) ix_tup (pv 8) pe_int (fun _ _ => rfl)) pa_nil)))))))))))), ?_⟩
  have s4' := ok.s4; have w4 := ok.w4; have d6 := ok.d6
  have few := wk_few ok
  refine ⟨by show 0 ≤ sizeLine; decide, fun F hF => ?_⟩
  have sF := Same.new hF (.lst [])
  have eF : upd H F (.lst []) F = some (.lst []) := upd_same
  try dsimp only
  generalize upd H F (.lst []) = H1 at sF eF
  refine ⟨by show 0 ≤ sizeLine; decide, fun L hL => ?_⟩
  have nFL : F ≠ L := ne_of_none eF hL
  have hLH : H L = none := by
    cases z : H L with
    | none => rfl
    | some o => rw [sF _ _ z] at hL; cases hL
  have sL := sF.trans (Same.new hL (.lst []))
  have eL : upd H1 L (.lst []) L = some (.lst []) := upd_same
  have eF2 : upd H1 L (.lst []) F = some (.lst []) := by rw [upd_ne nFL]; exact eF
  try dsimp only
  generalize upd H1 L (.lst []) = H2 at sL eL eF2
  refine ⟨_, rfl, pa, _, 1, _, rfl, rfl, SqT.same sL hP, rfl, .ref as, _, rfl, .inr ⟨_, SqT.same sL hS, rfl⟩, (((p.sources.map V.str).length : Nat) : Int), rfl, by rw [List.length_map]; omega, by rw [List.length_map]; omega, for_range (lo := 0) (n := (((p.sources.map V.str).length : Nat) : Int).toNat)
    (fun i σ H' => ∃ (v4 v5 : Option V) (fs ws : List V), σ = [some (.ref pa), some (.bl both), some (.ref F), some (.ref L), v4, v5, none, none, none] ∧ Same H H' ∧ H' F = some (.lst fs) ∧ H' L = some (.lst ws) ∧ TnAll K H' fs ((wkTo p i).map (wrDt p)) ∧ TnAll K H' ws ((wkTo p i).map idxD))
    ⟨none, none, [], [], rfl, sL, eF2, eL, .nil, .nil⟩ ?_ ?_⟩
  · rintro i σ H3 hi ⟨v4, v5, fs, ws, rfl, s3, ef, ew, hf, hw⟩
    rw [Int.toNat_natCast, List.length_map] at hi
    rw [show (0 : Int) + (i : Nat) = (i : Nat) by omega]
    have hsi : p.sources[i]? = some p.sources[i] := List.getElem?_eq_getElem hi
    have hat : atI (p.sources.map V.str) ((i : Nat) : Int) = some (.str (srcAt p i)) := atI_nat (by rw [List.getElem?_map, hsi, srcAt_of hsi]; rfl)
    refine ⟨_, rfl, pa, _, 0, _, rfl, rfl, SqT.same s3 hP, rfl, aw, rfl, ⟨_, SqT.same s3 hW⟩, for_tup (K := K) (a := aw) (xs := p.words.map V.str) (fun j σ H' => ∃ (v5 : Option V) (fs ws : List V), σ = [some (.ref pa), some (.bl both), some (.ref F), some (.ref L), some (.int (i : Nat)), v5, none, none, none] ∧ Same H H' ∧ H' F = some (.lst fs) ∧ H' L = some (.lst ws) ∧
        TnAll K H' fs ((wkTo p i ++ (p.words.take j).map fun w => (i, w)).map (wrDt p)) ∧ TnAll K H' ws ((wkTo p i ++ (p.words.take j).map fun w => (i, w)).map idxD))
      ⟨v5, fs, ws, rfl, s3, ef, ew, by simpa using hf, by simpa using hw⟩ (fun j σ H' _ ⟨_, _, _, _, s', _⟩ => SqT.same s' hW) ?_ ?_⟩
    · rintro j x σ H4 hx ⟨v5, fs, ws, rfl, s4, ef, ew, hf, hw⟩
      rw [List.getElem?_map] at hx
      obtain ⟨w0, hw0, rfl⟩ := Option.map_eq_some_iff.mp hx
      have jl : j < p.words.length := (List.getElem?_eq_some_iff.mp hw0).1
      have ln : (wkTo p i ++ (p.words.take j).map fun w => (i, w)).length ≤ 32 := by
        rw [List.length_append, wkTo_len, List.length_map, List.length_take]
        have : i * p.words.length ≤ 4 * 4 := Nat.mul_le_mul (by omega) w4
        omega
      have fl : fs.length ≤ 32 := by rw [hf.length, List.length_map]; exact ln
      have wl : ws.length ≤ 32 := by rw [hw.length, List.length_map]; exact ln
      refine ⟨_, rfl, .inl ⟨rfl, _, SqL.of ew⟩, _, rfl, _, rfl, by show 2 ≤ sizeLine; decide, fun t ht => ?_⟩
      have s5 := Same.new ht (.tup [V.int (i : Nat), .str w0])
      have ew5 := s5 _ _ ew
      have ef5 := s5 _ _ ef
      refine ⟨L, ws, _, rfl, rfl, ew5, small1000 (by omega), ?_⟩
      have tk5 : TK (upd H4 t (.tup [V.int (i : Nat), .str w0])) (upd (upd H4 t (.tup [V.int (i : Nat), .str w0])) L (.lst (ws ++ [.ref t]))) := TK.upd (by rw [ew5]; trivial)
      have s6 : Same H (upd (upd H4 t (.tup [V.int (i : Nat), .str w0])) L (.lst (ws ++ [.ref t]))) := K09.Same.own (s4.trans s5) hLH
      have ew6 : upd (upd H4 t (.tup [V.int (i : Nat), .str w0])) L (.lst (ws ++ [.ref t])) L = some (.lst (ws ++ [.ref t])) := upd_same
      have ef6 : upd (upd H4 t (.tup [V.int (i : Nat), .str w0])) L (.lst (ws ++ [.ref t])) F = some (.lst fs) := by rw [upd_ne nFL]; exact ef5
      have nt : Tn K (upd (upd H4 t (.tup [V.int (i : Nat), .str w0])) L (.lst (ws ++ [.ref t]))) (.ref t) (idxD (i, w0)) := Tn.keep tk5 (Tn.new (.cons (.int _) (.cons (.str _) .nil)) ht)
      have hf6 := TnAll.keep ((TK.of_same s5).trans tk5) hf
      have hw6 := TnAll.keep ((TK.of_same s5).trans tk5) hw
      dsimp only
      generalize upd (upd H4 t (.tup [V.int (i : Nat), .str w0])) L (.lst (ws ++ [.ref t])) = H6 at s6 ew6 ef6 nt hf6 hw6
      refine ⟨_, rfl, .inl ⟨rfl, _, SqL.of ef6⟩, _, rfl, pa, _, 1, _, rfl, rfl, SqT.same s6 hP, rfl, _, rfl, as, _, _, _, rfl, rfl, SqT.same s6 hS, hat, _, rfl, by show 3 ≤ sizeLine; decide, fun t2 ht2 => ?_⟩
      have s7 := Same.new ht2 (.tup [V.str "write", .str (srcAt p i), .str w0])
      have ef7 := s7 _ _ ef6
      refine ⟨F, fs, _, rfl, rfl, ef7, small1000 (by omega), ?_⟩
      have tk7 : TK (upd H6 t2 (.tup [V.str "write", .str (srcAt p i), .str w0])) (upd (upd H6 t2 (.tup [V.str "write", .str (srcAt p i), .str w0])) F (.lst (fs ++ [.ref t2]))) := TK.upd (by rw [ef7]; trivial)
      have tk67 := (TK.of_same s7).trans tk7
      refine ⟨_, _, _, rfl, K09.Same.own (s6.trans s7) hF, upd_same, by rw [upd_ne nFL.symm]; exact s7 _ _ ew6, ?_, ?_⟩
      · rw [take_snoc hw0, List.map_append (f := fun w => (i, w)), ← List.append_assoc, List.map_append (f := wrDt p)]
        exact TnAll.append (TnAll.keep tk67 hf6) (TnAll.one (Tn.keep tk7 (Tn.new (.cons (.str _) (.cons (.str _) (.cons (.str _) .nil))) ht2)))
      · rw [take_snoc hw0, List.map_append (f := fun w => (i, w)), ← List.append_assoc, List.map_append (f := idxD)]
        exact TnAll.append (TnAll.keep tk67 hw6) (TnAll.one (Tn.keep tk67 nt))
    · rintro σ H4 ⟨v5, fs, ws, rfl, s4, ef, ew, hf, hw⟩
      rw [List.length_map, List.take_length, ← wkTo_succ] at hf hw
      exact ⟨_, _, fs, ws, rfl, s4, ef, ew, hf, hw⟩
  rintro σ H3 ⟨v4, v5, fs, ws, rfl, s3, ef, ew, hf, hw⟩
  rw [Int.toNat_natCast, List.length_map, ← wk_to] at hf hw
  have wl : ws.length = (wk p).length := by rw [hw.length, List.length_map]
  have fl : fs.length = (wk p).length := by rw [hf.length, List.length_map]
  refine ⟨fun σ' H' => ∃ (v6 v7 v8 : Option V) (zs : List V), σ' = [some (.ref pa), some (.bl both), some (.ref F), some (.ref L), v4, v5, v6, v7, v8] ∧ Same H H' ∧ H' F = some (.lst zs) ∧ zs.length ≤ 400 ∧ TnAll K H' zs (listW p ++ if both = true then listB p else []), ?_, ?_⟩
  · refine ⟨_, rfl, _, rfl, ?_⟩
    cases both with
    | false => exact if_false_of rfl ⟨_, _, _, fs, rfl, s3, ef, by omega, by rw [if_neg (by decide), List.append_nil]; exact hf⟩
    | true =>
    refine if_true_of rfl ?_
    refine ⟨_, rfl, L, rfl, ⟨_, SqL.of ew⟩, for_list (K := K) (a := L) (xs := ws) (fun i σ H' => ∃ (v6 v7 v8 : Option V) (zs : List V), σ = [some (.ref pa), some (.bl true), some (.ref F), some (.ref L), v4, v5, v6, v7, v8] ∧ Same H H' ∧ TK H3 H' ∧ H' L = some (.lst ws) ∧ H' F = some (.lst zs) ∧ zs.length ≤ 16 + 16 * i ∧
        TnAll K H' zs (listW p ++ (((wk p).take i).flatMap (prsF p)).map (btDt p)))
      ⟨none, none, none, fs, rfl, s3, TK.refl _, ew, ef, by omega, by rw [List.take_zero, List.flatMap_nil, List.map_nil, List.append_nil]; exact hf⟩ (fun i σ H' _ ⟨_, _, _, _, _, _, _, z, _⟩ => SqL.of z) ?_ ?_⟩
    · rintro i x σ H4 hx ⟨v6, v7, v8, zs, rfl, s4, tk4, ew4, ez, zl, hz⟩
      obtain ⟨d0, hd1, hd2⟩ := (TnAll.keep tk4 hw).get hx
      rw [List.getElem?_map] at hd1
      obtain ⟨a, ha, rfl⟩ := Option.map_eq_some_iff.mp hd1
      obtain ⟨ba, rfl, hAa⟩ := idx_at hd2
      have il := (List.getElem?_eq_some_iff.mp ha).1
      have ata : atI (p.sources.map V.str) ((a.1 : Nat) : Int) = some (.str (srcAt p a.1)) := atI_nat (by rw [List.getElem?_map, wk_src (List.mem_of_getElem? ha)]; rfl)
      refine ⟨_, rfl, L, rfl, ⟨_, SqL.of ew4⟩, for_list (K := K) (a := L) (xs := ws) (fun j σ H' => ∃ (v7 v8 : Option V) (zs : List V), σ = [some (.ref pa), some (.bl true), some (.ref F), some (.ref L), v4, v5, some (.ref ba), v7, v8] ∧ Same H H' ∧ TK H3 H' ∧ TK H4 H' ∧ H' L = some (.lst ws) ∧ H' F = some (.lst zs) ∧ zs.length ≤ 16 + 16 * i + j ∧
          TnAll K H' zs (listW p ++ (((wk p).take i).flatMap (prsF p) ++ (((wk p).take j).filter fun b => decide (a.1 < b.1)).map fun b => (a, b)).map (btDt p)))
        ⟨v7, v8, zs, rfl, s4, tk4, TK.refl _, ew4, ez, by omega, by simpa using hz⟩ (fun j σ H' _ ⟨_, _, _, _, _, _, _, z, _⟩ => SqL.of z) ?_ ?_⟩
      · rintro j y σ H5 hy ⟨v7, v8, zs, rfl, s5, tk5, tk45, ew5, ez5, zl5, hz5⟩
        obtain ⟨d1, he1, he2⟩ := (TnAll.keep tk5 hw).get hy
        rw [List.getElem?_map] at he1
        obtain ⟨b, hb, rfl⟩ := Option.map_eq_some_iff.mp he1
        obtain ⟨bb, rfl, hBb⟩ := idx_at he2
        have jb := (List.getElem?_eq_some_iff.mp hb).1
        have atb : atI (p.sources.map V.str) ((b.1 : Nat) : Int) = some (.str (srcAt p b.1)) := atI_nat (by rw [List.getElem?_map, wk_src (List.mem_of_getElem? hb)]; rfl)
        have hA5 := SqT.tk tk45 hAa
        refine ⟨_, rfl, ba, _, 0, _, rfl, rfl, hA5, rfl, _, rfl, bb, _, 0, _, rfl, rfl, hBb, rfl, _, _, rfl, rfl, _, rfl, ?_⟩
        by_cases lt : a.1 < b.1
        · refine if_true_of (decide_eq_true (by omega)) ?_
          refine ⟨_, rfl, pa, _, 1, _, rfl, rfl, SqT.same s5 hP, rfl, _, rfl, ba, _, 0, _, rfl, rfl, hA5, rfl, as, _, _, _, rfl, rfl, SqT.same s5 hS, ata, _, rfl, ba, _, 1, _, rfl, rfl, hA5, rfl, by show 2 ≤ sizeLine; decide, fun t1 ht1 => ?_⟩
          have s6 := Same.new ht1 (.tup [V.str (srcAt p a.1), .str a.2])
          have n6 : Tn K (upd H5 t1 (.tup [V.str (srcAt p a.1), .str a.2])) (.ref t1) (wDt p a) := Tn.new (.cons (.str _) (.cons (.str _) .nil)) ht1
          dsimp only
          generalize upd H5 t1 (.tup [V.str (srcAt p a.1), .str a.2]) = H6 at s6 n6
          have s56 := s5.trans s6
          have ez6 := s6 _ _ ez5
          refine ⟨_, rfl, .inl ⟨rfl, _, SqL.of ez6⟩, _, rfl, _, rfl, pa, _, 1, _, rfl, rfl, SqT.same s56 hP, rfl, _, rfl, bb, _, 0, _, rfl, rfl, SqT.same s6 hBb, rfl, as, _, _, _, rfl, rfl, SqT.same s56 hS, atb, _, rfl, bb, _, 1, _, rfl, rfl, SqT.same s6 hBb, rfl, by show 2 ≤ sizeLine; decide, fun t2 ht2 => ⟨by show 2 ≤ sizeLine; decide, fun t3 ht3 => ⟨by show 2 ≤ sizeLine; decide, fun t4 ht4 => ?_⟩⟩⟩
          have s7 := Same.new ht2 (.tup [V.str (srcAt p b.1), .str b.2])
          have n7 : Tn K (upd H6 t2 (.tup [V.str (srcAt p b.1), .str b.2])) (.ref t2) (wDt p b) := Tn.new (.cons (.str _) (.cons (.str _) .nil)) ht2
          have n67 := Tn.keep (TK.of_same s7) n6
          have ez7 := s7 _ _ ez6
          have s57 := s56.trans s7
          have tk57 := (TK.of_same (s6.trans s7))
          have ew7 := s7 _ _ (s6 _ _ ew5)
          dsimp only at ht3 ht4 ⊢
          generalize upd H6 t2 (.tup [V.str (srcAt p b.1), .str b.2]) = H7 at s7 n7 n67 ez7 s57 tk57 ew7 ht3 ht4
          have s8 := Same.new ht3 (.tup [V.ref t1, .ref t2])
          have n8 : Tn K (upd H7 t3 (.tup [V.ref t1, .ref t2])) (.ref t3) (pairDt p (a, b)) := Tn.new (.cons n67 (.cons n7 .nil)) ht3
          generalize upd H7 t3 (.tup [V.ref t1, .ref t2]) = H8 at s8 n8 ht4
          have s9 := Same.new ht4 (.tup [V.str "batch", .ref t3])
          have n9 : Tn K (upd H8 t4 (.tup [V.str "batch", .ref t3])) (.ref t4) (btDt p (a, b)) := Tn.new (.cons (.str _) (.cons n8 .nil)) ht4
          generalize upd H8 t4 (.tup [V.str "batch", .ref t3]) = H9 at s9 n9
          have s79 := s8.trans s9
          have ez9 := s79 _ _ ez7
          refine ⟨F, zs, _, rfl, rfl, ez9, small1000 (by omega), ?_⟩
          have tk9 : TK H9 (upd H9 F (.lst (zs ++ [.ref t4]))) := TK.upd (by rw [ez9]; trivial)
          have tk59 := (tk57.trans (TK.of_same s79)).trans tk9
          refine ⟨_, _, _, rfl, K09.Same.own (s57.trans s79) hF, tk5.trans tk59, tk45.trans tk59, by rw [upd_ne nFL.symm]; exact s79 _ _ ew7, upd_same, by rw [List.length_append]; show zs.length + 1 ≤ _; omega, ?_⟩
          have e3 : ((wk p).take (j + 1)).filter (fun b => decide (a.1 < b.1)) = ((wk p).take j).filter (fun b => decide (a.1 < b.1)) ++ [b] := by
            rw [take_snoc hb, List.filter_append, List.filter_cons_of_pos (by exact decide_eq_true lt)]; rfl
          rw [e3, List.map_append (f := fun b => (a, b)), ← List.append_assoc, List.map_append (f := btDt p), ← List.append_assoc]
          exact TnAll.append (TnAll.keep tk59 hz5) (TnAll.one (Tn.keep tk9 n9))
        · refine if_false_of (decide_eq_false (by omega)) ⟨_, _, zs, rfl, s5, tk5, tk45, ew5, ez5, by omega, ?_⟩
          rw [take_snoc hb, List.filter_append, List.filter_cons_of_neg (by simpa using lt), List.filter_nil, List.append_nil]
          exact hz5
      · rintro σ H5 ⟨v7, v8, zs, rfl, s5, tk5, tk45, ew5, ez5, zl5, hz5⟩
        rw [wl] at zl5 hz5
        rw [List.take_length] at hz5
        refine ⟨_, _, _, zs, rfl, s5, tk5, ew5, ez5, by omega, ?_⟩
        rw [take_snoc ha, List.flatMap_append, List.flatMap_singleton]
        exact hz5
    · rintro σ H4 ⟨v6, v7, v8, zs, rfl, s4, tk4, ew4, ez, zl, hz⟩
      rw [wl] at zl hz
      rw [List.take_length] at hz
      exact ⟨_, _, _, zs, rfl, s4, ez, by omega, by rw [if_pos rfl]; exact hz⟩
  rintro _ H4 ⟨v6, v7, v8, zs, rfl, s4, ez, zl, hz⟩
  have hA4 := SqT.same s4 hA
  refine ⟨_, rfl, _, rfl, pa, _, 2, _, rfl, rfl, SqT.same s4 hP, rfl, ad, rfl, ⟨_, hA4⟩, fun D hD' => lc_tup (K := K) (a := ad) (xs := xd) (fun i H' => ∃ us : List V, Same H4 H' ∧ H' D = some (.lst us) ∧ us.length = i ∧ TnAll K H' us ((p.derived.take i).map fun q => .tuple [.str "read", .str q.1]))
    ⟨[], Same.new hD' _, upd_same, rfl, .nil⟩ (fun i H' _ ⟨_, s', _⟩ => SqT.same s' hA4) ?_ ?_⟩
  · rintro i x H5 hx ⟨us, s5, hu, ul, huT⟩
    obtain ⟨d0, hd1, hd2⟩ := (TnAll.keep (TK.of_same (s4.trans s5)) hX).get hx
    rw [List.getElem?_map] at hd1
    obtain ⟨qq, hqq, rfl⟩ := Option.map_eq_some_iff.mp hd1
    obtain ⟨b, v, rfl, hQ⟩ := pair_at0 hd2
    have il := (List.getElem?_eq_some_iff.mp hqq).1
    refine ⟨rfl, tYes_of ?_⟩
    refine ⟨_, rfl, b, _, 0, _, rfl, rfl, hQ, rfl, by show 2 ≤ sizeLine; decide, fun t ht => ?_⟩
    have s8 := Same.new ht (.tup [V.str "read", .str qq.1])
    have hu8 := s8 _ _ hu
    refine ⟨us, hu8, small1000 (by omega), us ++ [.ref t], K09.Same.own (s5.trans s8) hD', upd_same, by rw [List.length_append, ul]; rfl, ?_⟩
    rw [take_snoc hqq, List.map_append]
    have tk : TK (upd H5 t (.tup [V.str "read", .str qq.1])) (upd (upd H5 t (.tup [V.str "read", .str qq.1])) D (.lst (us ++ [.ref t]))) := TK.upd (by rw [hu8]; trivial)
    exact TnAll.append (TnAll.keep ((TK.of_same s8).trans tk) huT) (TnAll.one (Tn.keep tk (Tn.new (.cons (.str _) (.cons (.str _) .nil)) ht)))
  · rintro H5 ⟨us, s5, hu, ul, huT⟩
    have xdl : xd.length = p.derived.length := by rw [hX.length, List.length_map]
    rw [xdl] at ul huT
    rw [List.take_length] at huT
    have ez5 := s5 _ _ ez
    refine ⟨F, D, zs, us, rfl, rfl, ez5, hu, Nat.le_of_lt (small1000 (by omega)), fun G hG => ?_⟩
    have s6 := (s4.trans s5).trans (Same.new hG (.lst (zs ++ us)))
    have hGH : H G = none := by
      cases z : H G with
      | none => rfl
      | some o => rw [(s4.trans s5) _ _ z] at hG; cases hG
    have tk : TK H5 (upd H5 G (.lst (zs ++ us))) := TK.of_same (Same.new hG _)
    exact q G _ _ s6 hGH upd_same (TnAll.append (TnAll.keep ((TK.of_same s5).trans tk) hz) (TnAll.keep tk huT))
end
end K09
namespace K09
open PySem PySem.Spec PyProof.Rows L2 Td
theorem strOk_app {x y : Str} (hx : PyData.strOk x = true) (hy : PyData.strOk y = true) : PyData.strOk (x ++ y) = true := by
  unfold PyData.strOk at *
  show (x.cps ++ y.cps).all _ = true
  rw [Array.all_append, hx, hy]
  rfl
theorem sm_of_str {k : Nat} {z : Str} (h : z.length ≤ 100) (ho : PyData.strOk z = true) : smB (k + 1) (.str z) = true := by
  simp only [smB, ho, decide_eq_true h, Bool.and_true]
theorem sm_of_nm {k : Nat} {z : Str} (h : isNm z = true) : smB (k + 1) (.str z) = true := sm_of_str (by have := (isNm_len h).2.1; omega) (nm_ok h)
theorem sm_of_list {k : Nat} {ds : List PyData} (hl : ds.length ≤ 100) (h : ∀ x ∈ ds, smB k x = true) : smB (k + 1) (.list ds) = true := by
  simp only [smB, Bool.and_eq_true, List.all_eq_true, decide_eq_true_eq]
  exact ⟨hl, h⟩
theorem TnAll.takeN {K : PySem.W.Frag} {H : Hp} : ∀ (n : Nat) {xs : List V} {ds : List PyData}, TnAll K H xs ds → TnAll K H (xs.take n) (ds.take n)
  | 0, _, _, _ => by rw [List.take_zero, List.take_zero]; exact .nil
  | n + 1, _, _, .nil => by rw [List.take_nil, List.take_nil]; exact .nil
  | n + 1, _, _, .cons a b => by rw [List.take_succ_cons, List.take_succ_cons]; exact .cons a (TnAll.takeN n b)
theorem TnAll.dropN {K : PySem.W.Frag} {H : Hp} : ∀ (n : Nat) {xs : List V} {ds : List PyData}, TnAll K H xs ds → TnAll K H (xs.drop n) (ds.drop n)
  | 0, _, _, h => h
  | n + 1, _, _, .nil => by rw [List.drop_nil, List.drop_nil]; exact .nil
  | n + 1, _, _, .cons a b => TnAll.dropN n b
theorem cut_toV1 (xs : List V) (h : 1 ≤ xs.length) : cutV xs none (some 1) = xs.take 1 := by
  have e : HT.sIx xs.length xs.length (some ((1 : Nat) : Int)) = min 1 xs.length := HT.sIx_nat _ _ 1
  unfold cutV
  rw [HT.sIx_none, List.drop_zero, Nat.sub_zero]
  show xs.take (HT.sIx xs.length xs.length (some ((1 : Nat) : Int))) = _
  rw [e, Nat.min_eq_left h]
theorem cut_fromV1 (xs : List V) : cutV xs (some 1) none = xs.drop 1 := cut_from xs 1
def De.items : De → List PyData
  | .rd c => [.str "read", .str c]
  | .wr s w => [.str "write", .str s, .str w]
  | .bt ps => [.str "batch", .tuple (ps.map wpD)]
def De.tag : De → Str
  | .rd _ => "read"
  | .wr _ _ => "write"
  | .bt _ => "batch"
theorem De.data_items (d : De) : d.data = .tuple d.items := by cases d <;> rfl
theorem kw_len : ("read" : Str).length ≤ 100 ∧ ("write" : Str).length ≤ 100 ∧ ("batch" : Str).length ≤ 100 ∧ ("look" : Str).length ≤ 100 := by decide +kernel
theorem kw_strOk : PyData.strOk ("read" : Str) = true ∧ PyData.strOk ("write" : Str) = true ∧ PyData.strOk ("batch" : Str) = true ∧ PyData.strOk ("look" : Str) = true := by decide +kernel
theorem sm_two {k : Nat} {a b : PyData} (ha : smB k a = true) (hb : smB k b = true) : smB (k + 1) (.tuple [a, b]) = true := sm_of_tup (by show 2 ≤ 100; decide) fun x hx => by
  simp only [List.mem_cons, List.not_mem_nil, or_false] at hx
  rcases hx with rfl | rfl
  · exact ha
  · exact hb
theorem sm_wpD {p : PP} {m : Nat} (ok : p.Ok m) {q : Str × Str} (h : q.1 ∈ p.sources ∧ q.2 ∈ p.words) (k : Nat) : smB (k + 2) (wpD q) = true := sm_two (sm_of_nm (O_sources ok _ h.1)) (sm_of_nm (O_words ok _ h.2))
theorem sm_items {p : PP} {m : Nat} (ok : p.Ok m) : ∀ {d : De}, d.Of p → ∀ (k : Nat), ∀ x ∈ d.items, smB (k + 3) x = true
  | .rd c, h, k, x, hx => by
    simp only [De.items, List.mem_cons, List.not_mem_nil, or_false] at hx
    rcases hx with rfl | rfl
    · exact sm_of_str kw_len.1 kw_strOk.1
    · exact sm_of_nm (O_cells ok _ h)
  | .wr s w, h, k, x, hx => by
    simp only [De.items, List.mem_cons, List.not_mem_nil, or_false] at hx
    rcases hx with rfl | rfl | rfl
    · exact sm_of_str kw_len.2.1 kw_strOk.2.1
    · exact sm_of_nm (O_sources ok _ h.1)
    · exact sm_of_nm (O_words ok _ h.2)
  | .bt ps, h, k, x, hx => by
    simp only [De.items, List.mem_cons, List.not_mem_nil, or_false] at hx
    rcases hx with rfl | rfl
    · exact sm_of_str kw_len.2.2.1 kw_strOk.2.2.1
    · refine sm_of_tup (by rw [List.length_map]; have := h.2.1; omega) fun y hy => ?_
      obtain ⟨q, hq, rfl⟩ := List.mem_map.mp hy
      exact sm_wpD ok (h.2.2.1 q hq) k
theorem items_len (d : De) : 2 ≤ d.items.length ∧ d.items.length ≤ 3 := by cases d <;> exact ⟨by simp [De.items], by simp [De.items]⟩
def spBadDeed (K : PySem.W.Frag) : Sp := fun vs H Q _ => ∃ (st sc : Addr) (v u : V) (p : PP) (m : Nat) (d : De), vs = [.ref st, v, u] ∧ StOk H st sc ∧ Tn K H v p.data ∧ p.Ok m ∧ Tn K H u d.data ∧ d.Of p ∧
  ∀ (x : V) H', Keep st H H' → StOk H' st sc → ((∃ b, Dp K H' x b ∧ smB 12 b = true) ∨ TyX K H' x (.type "dict")) → Q x H'
section
variable {P : Program} {w : World} {K : PySem.W.Frag} {mg : Str → Option Value} {base : Heap}
theorem ok_law_bad (T : Tops w K mg) (G__law_draw : FnOk P w K mg base CX0 1 T.a__law_draw T.d__law_draw ["_law_state_here", "_law_many_here"] spDraw) :
    FnOk P w K mg base CX0 2 T.a__law_bad T.d__law_bad ["_law_state_here", "_law_parts_here", "_law_deed_here"] (spBadDeed K) := by
  refine T.F__law_bad.ok sc_law_bad (fun vs H Q E h => ?_) (fun cdv A outer s H vs Q E hr h => ?_)
  · obtain ⟨st, sc, v, u, p, m, d, rfl, _⟩ := h; rfl
  obtain ⟨st, sc, v, u, p, m, d, rfl, ho, hD, ok, hu, of, q⟩ := h
  obtain ⟨pa, aw, as, vd, ve, rfl, hP, hW, hS, hd, he⟩ := parts_at hD
  obtain ⟨ad, xd, rfl, hA, hX⟩ := Tn.tup_inv hd
  refine ⟨_, (pss_cons (ps_set (i := 3) sc_law_bad.nd rfl (Or.inl rfl) (pe_call G__law_draw (hr.mono (by omega)) rfl T.m__law_draw T.F__law_draw.kp T.b__law_draw .nil pass0 (pa_cons (pv 0) (pa_cons pe_int pa_nil))))
    (pss_cons (ps_set (i := 4) sc_law_bad.nd rfl (Or.inl rfl) (pe_op op_add_str (pe_ix ix_tup (pe_ix ix_tup (pv 1) pe_int (fun _ _ => rfl)) pe_int (fun _ _ => rfl)) pe_str))
    (pss_cons (ps_if (pt_cmpR op_lt (pv 3) pe_int (nomark _)) (pss_one (ps_ret (pe_ix ix_list (pe_lst (pa_cons (pe_callTy call_list_of rfl T.z_list (by decide +kernel) (pa_cons (pv 2) pa_nil)) (pa_cons (pe_op op_catA (pv 2) (pe_tup (pa_cons (pv 4) pa_nil))) (pa_cons (pe_slice sl_tupA (pv 2) po_none (po_some pe_int)) (pa_cons (pe_op op_catA (pe_tup (pa_cons pe_str pa_nil)) (pe_slice sl_tupA (pv 2) (po_some pe_int) po_none)) pa_nil))))) (pv 3) (fun _ _ => rfl)))) pss_nil)
    (pss_cons (ps_if (pt_cmpR op_lt (pv 3) pe_int (nomark _)) (pss_one (ps_ret (pe_ix ix_list (pe_lst (pa_cons (pe_tup (pa_cons pe_str (pa_cons (pv 4) (pa_cons (pe_ix ix_tup (pe_ix ix_tup (pv 1) pe_int (fun _ _ => rfl)) pe_int (fun _ _ => rfl)) pa_nil)))) (pa_cons (pe_tup (pa_cons pe_str (pa_cons (pv 4) pa_nil))) (pa_cons (pe_tup (pa_cons pe_str (pa_cons (pe_tup pa_nil) pa_nil))) pa_nil)))) (pe_op op_sub (pv 3) pe_int) (fun _ _ => rfl)))) pss_nil)
    (C8.pss_cut (ps_if (PW.pt (pw_and (pt_cmpR op_eq (pv 3) pe_int (nomark _)) (pw_and1 (pt_cmpR op_eq (pe_ix ix_tup (pv 2) pe_int (fun _ _ => rfl)) pe_str (nomark _))))) (pss_one (ps_ret (pe_tup (pa_cons pe_str (pa_cons (pe_op op_catA (pe_ix ix_tup (pv 2) pe_int (fun _ _ => rfl)) (pe_slice sl_tupA (pe_ix ix_tup (pv 2) pe_int (fun _ _ => rfl)) po_none (po_some pe_int))) pa_nil))))) pss_nil)
    (C8.pss_cut (ps_if (PW.pt (pw_and (pt_cmpR op_eq (pv 3) pe_int (nomark _)) (pw_and1 (pt_cmpR op_eq (pe_ix ix_tup (pv 2) pe_int (fun _ _ => rfl)) pe_str (nomark _))))) (pss_one (ps_ret (pe_tup (pa_cons pe_str (pa_cons (pe_callTy call_list_of rfl T.z_list (by decide +kernel) (pa_cons (pe_ix ix_tup (pv 2) pe_int (fun _ _ => rfl)) pa_nil)) pa_nil))))) pss_nil)
    (C8.pss_cut (ps_if (PW.pt (pw_and (pt_cmpR op_eq (pv 3) pe_int (nomark _)) (pw_and1 (pt_cmpR op_gt (pe_callB call_len rfl T.z_len PySem.boot_len (pa_cons (pe_ix ix_tup (pv 1) pe_int (fun _ _ => rfl)) pa_nil)) pe_int (nomark _))))) (pss_cons (ps_set (i := 5) sc_law_bad.nd rfl (Or.inl rfl) (pe_tup (pa_cons (pe_ix ix_tup (pe_ix ix_tup (pe_ix ix_tup (pv 1) pe_int (fun _ _ => rfl)) pe_int (fun _ _ => rfl)) pe_int (fun _ _ => rfl)) (pa_cons (pe_ix ix_tup (pe_ix ix_tup (pv 1) pe_int (fun _ _ => rfl)) pe_int (fun _ _ => rfl)) pa_nil))))
    (pss_one (ps_ret (pe_ix ix_list (pe_lst (pa_cons (pe_op op_catA (pe_tup (pa_cons pe_str pa_nil)) (pv 5)) (pa_cons (pe_tup (pa_cons pe_str (pa_cons (pe_tup (pa_cons (pv 5) pa_nil)) pa_nil))) pa_nil))) (pe_call G__law_draw (hr.mono (by omega)) rfl T.m__law_draw T.F__law_draw.kp T.b__law_draw .nil pass0 (pa_cons (pv 0) (pa_cons pe_int pa_nil))) (fun _ _ => rfl))))) pss_nil)
    (pss_cons (ps_if (pt_cmpR op_eq (pv 3) pe_int (nomark _)) (pss_one (ps_ret (pe_tup (pa_cons pe_str (pa_cons (pe_ix ix_tup (pe_ix ix_tup (pv 1) pe_int (fun _ _ => rfl)) pe_int (fun _ _ => rfl)) (pa_cons (pe_ix ix_list (pe_lst (pa_cons (pe_op op_add_str (pe_ix ix_tup (pe_ix ix_tup (pv 1) pe_int (fun _ _ => rfl)) pe_int (fun _ _ => rfl)) pe_str) (pa_cons pe_non (pa_cons pe_bl (pa_cons (pe_tup (pa_cons (pe_ix ix_tup (pe_ix ix_tup (pv 1) pe_int (fun _ _ => rfl)) pe_int (fun _ _ => rfl)) pa_nil)) pa_nil))))) (pe_call G__law_draw (hr.mono (by omega)) rfl T.m__law_draw T.F__law_draw.kp T.b__law_draw .nil pass0 (pa_cons (pv 0) (pa_cons pe_int pa_nil))) (fun _ _ => rfl)) pa_nil)))))) pss_nil)
    (pss_one (ps_ret (pe_ix ix_list (pe_lst (pa_cons pe_non (pa_cons pe_bl (pa_cons pe_int (pa_cons pe_str (pa_cons (pe_tup pa_nil) (pa_cons (pe_tup (pa_cons pe_int (pa_cons pe_int pa_nil))) (pa_cons (pe_tup (pa_cons pe_str (pa_cons pe_non pa_nil))) (pa_cons (pe_tup (pa_cons pe_str (pa_cons pe_non pa_nil))) (pa_cons pe_dnewK pa_nil)))))))))) (pe_call G__law_draw (hr.mono (by omega)) rfl T.m__law_draw T.F__law_draw.kp T.b__law_draw .nil pass0 (pa_cons (pv 0) (pa_cons pe_int pa_nil))) (fun _ _ => rfl)))))))))))), ?_⟩
  obtain ⟨ua, us, rfl, hU, hI⟩ := Tn.tup_inv (d.data_items ▸ hu)
  have il := items_len d
  have ul : us.length = d.items.length := hI.length
  have smI := sm_items ok of
  obtain ⟨s0, hs0⟩ : ∃ s0, p.sources[0]? = some s0 := ⟨_, List.getElem?_eq_getElem (by have := ok.s1; omega)⟩
  obtain ⟨w0, hw0⟩ : ∃ w0, p.words[0]? = some w0 := ⟨_, List.getElem?_eq_getElem (by have := ok.w2; omega)⟩
  have at0s : atI (p.sources.map V.str) 0 = some (.str s0) := atI_nat (j := 0) (by rw [List.getElem?_map, hs0]; rfl)
  have at0w : atI (p.words.map V.str) 0 = some (.str w0) := atI_nat (j := 0) (by rw [List.getElem?_map, hw0]; rfl)
  have ns0 := O_sources ok s0 (List.mem_of_getElem? hs0)
  have nw0 := O_words ok w0 (List.mem_of_getElem? hw0)
  have la : ("A" : Str).length = 1 := by decide +kernel
  have smA : ∀ {z : Str}, isNm z = true → ∀ k, smB (k + 1) (.str (z ++ ("A" : Str))) = true := fun {z} h k => sm_of_str (by rw [PySem.Str.length_append, la]; have := (isNm_len h).2.1; omega) (strOk_app (nm_ok h) (by decide +kernel))
  have smL : ∀ k, smB (k + 1) (.str ("look" : Str)) = true := fun k => sm_of_str kw_len.2.2.2 kw_strOk.2.2.2
  have smW : ∀ k, smB (k + 1) (.str ("write" : Str)) = true := fun k => sm_of_str kw_len.2.1 kw_strOk.2.1
  have smR : ∀ k, smB (k + 1) (.str ("read" : Str)) = true := fun k => sm_of_str kw_len.1 kw_strOk.1
  have smBt : ∀ k, smB (k + 1) (.str ("batch" : Str)) = true := fun k => sm_of_str kw_len.2.2.1 kw_strOk.2.2.1
  refine ⟨_, rfl, st, sc, 12, rfl, by decide, by decide, ho, fun r H2 r0 r12 k2 o2 _ => ?_⟩
  have tk2 := TK.of_keep k2 ho.chg
  have hP2 := SqT.tk tk2 hP
  have hS2 := SqT.tk tk2 hS
  have hW2 := SqT.tk tk2 hW
  have hA2 := SqT.tk tk2 hA
  have hX2 := TnAll.keep tk2 hX
  have hU2 := SqT.tk tk2 hU
  have hI2 := TnAll.keep tk2 hI
  clear hP hS hW hA hX hU hI tk2
  have pickG : ∀ {L : List V} {i : Int} {l : Addr} {H' : Hp}, Keep st H2 H' → StOk H' st sc → H' l = some (.lst L) → 0 ≤ i → i < (L.length : Nat) → (∀ x ∈ L, (∃ b, Dp K H' x b ∧ smB 12 b = true) ∨ TyX K H' x (.type "dict")) → rIxL K (.ref l) (.int i) H' Q := fun {L i l H'} k o hl h0 h1 hL => by
    obtain ⟨j, rfl⟩ : ∃ j : Nat, i = (j : Nat) := ⟨i.toNat, by omega⟩
    have hj : j < L.length := by omega
    exact ⟨l, L, _, L[j], rfl, rfl, SqL.of hl, atI_nat (List.getElem?_eq_getElem hj), q _ _ (k2.trans k) o (hL _ (List.getElem_mem hj))⟩
  refine ⟨_, rfl, pa, _, 1, _, rfl, rfl, hP2, rfl, as, _, 0, .str s0, rfl, rfl, hS2, at0s, s0, "A", rfl, rfl, Nat.le_of_lt (small1000 (by rw [la]; have := (isNm_len ns0).2.1; omega)), ?_⟩
  refine ⟨_, rfl, _, _, rfl, rfl, _, rfl, ?_⟩
  by_cases r4 : r < 4
  · refine if_true_of (decide_eq_true r4) ?_
    refine ⟨_, rfl, ua, us, rfl, .inr hU2, fun l1 hl1 => ?_⟩
    have z1 := Same.new hl1 (.lst us)
    have el1 : upd H2 l1 (.lst us) l1 = some (.lst us) := upd_same
    try dsimp only
    generalize upd H2 l1 (.lst us) = H3 at z1 el1
    have hU3 := SqT.same z1 hU2
    refine ⟨_, rfl, _, rfl, by show 1 ≤ sizeLine; decide, fun t2 ht2 => ?_⟩
    have z2 := Same.new ht2 (.tup [V.str (s0 ++ ("A" : Str))])
    have et2 : upd H3 t2 (.tup [V.str (s0 ++ ("A" : Str))]) t2 = some (.tup [V.str (s0 ++ ("A" : Str))]) := upd_same
    try dsimp only
    generalize upd H3 t2 (.tup [V.str (s0 ++ ("A" : Str))]) = H4 at z2 et2
    refine cat_all (SqT.same z2 hU3) (SqT.of et2) (Nat.le_of_lt (small1000 (by show us.length + 1 ≤ 1000; omega))) (fun c2 H5 z3 hc2 => ?_)
    have z25 := z2.trans z3
    refine ⟨_, rfl, ?_⟩
    dsimp only [tNoPart]
    refine ⟨1, rfl, sl_all (SqT.same z25 hU3) fun c3 H6 z4 hc3 => ?_⟩
    rw [cut_toV1 us (by omega)] at hc3
    have z26 := z25.trans z4
    refine ⟨by show 1 ≤ sizeLine; decide, fun t4 ht4 => ?_⟩
    have z5 := Same.new ht4 (.tup [V.str "look"])
    have et4 : upd H6 t4 (.tup [V.str "look"]) t4 = some (.tup [V.str "look"]) := upd_same
    try dsimp only
    generalize upd H6 t4 (.tup [V.str "look"]) = H7 at z5 et4
    refine ⟨_, rfl, 1, rfl, ?_⟩
    dsimp only [tNoPart]
    refine sl_all (SqT.same (z26.trans z5) hU3) fun c5 H8 z6 hc5 => ?_
    rw [cut_fromV1 us] at hc5
    refine cat_all (SqT.same z6 (SqT.of et4)) hc5 (Nat.le_of_lt (small1000 (by rw [List.length_drop]; show 1 + _ ≤ 1000; omega))) (fun c6 H9 z7 hc6 => ?_)
    refine ⟨by show 4 ≤ sizeLine; decide, fun p9 hp9 => ?_⟩
    have z8 := Same.new hp9 (.lst [V.ref l1, .ref c2, .ref c3, .ref c6])
    have z39 := (z26.trans z5).trans ((z6.trans z7).trans z8)
    have zA := z1.trans z39
    have d1 : Dp K (upd H9 p9 (.lst [V.ref l1, .ref c2, .ref c3, .ref c6])) (.ref l1) (.list d.items) := .lst (SqL.of (z39 _ _ el1)) (TnAll.dp (TnAll.keep (TK.of_same zA) hI2))
    have d2 : Tn K (upd H9 p9 (.lst [V.ref l1, .ref c2, .ref c3, .ref c6])) (.ref c2) (.tuple (d.items ++ [.str (s0 ++ ("A" : Str))])) := .tup (SqT.same ((z4.trans z5).trans ((z6.trans z7).trans z8)) hc2) (TnAll.append (TnAll.keep (TK.of_same zA) hI2) (TnAll.one (.str _)))
    have d3 : Tn K (upd H9 p9 (.lst [V.ref l1, .ref c2, .ref c3, .ref c6])) (.ref c3) (.tuple (d.items.take 1)) := .tup (SqT.same (z5.trans ((z6.trans z7).trans z8)) hc3) (TnAll.takeN 1 (TnAll.keep (TK.of_same zA) hI2))
    have d4 : Tn K (upd H9 p9 (.lst [V.ref l1, .ref c2, .ref c3, .ref c6])) (.ref c6) (.tuple ([.str ("look" : Str)] ++ d.items.drop 1)) := .tup (SqT.same z8 hc6) (TnAll.append (TnAll.one (.str _)) (TnAll.dropN 1 (TnAll.keep (TK.of_same zA) hI2)))
    refine ⟨_, rfl, pickG (K09.Keep.of_same zA) (stGo o2 zA) upd_same r0 (by show r < 4; exact r4) fun x hx => .inl ?_⟩
    simp only [List.mem_cons, List.not_mem_nil, or_false] at hx
    rcases hx with rfl | rfl | rfl | rfl
    · exact ⟨_, d1, sm_of_list (by omega) (smI 8)⟩
    · refine ⟨_, Tn.dp d2, sm_of_tup (by rw [List.length_append]; show _ + 1 ≤ 100; omega) fun x hx => ?_⟩
      rcases List.mem_append.mp hx with hx | hx
      · exact smI 8 x hx
      · rw [List.mem_singleton.mp hx]; exact smA ns0 10
    · exact ⟨_, Tn.dp d3, sm_of_tup (by rw [List.length_take]; omega) fun x hx => smI 8 x (List.mem_of_mem_take hx)⟩
    · refine ⟨_, Tn.dp d4, sm_of_tup (by rw [List.length_append, List.length_drop]; show 1 + _ ≤ 100; omega) fun x hx => ?_⟩
      rcases List.mem_append.mp hx with hx | hx
      · rw [List.mem_singleton.mp hx]; exact smL 10
      · exact smI 8 x (List.mem_of_mem_drop hx)
  refine if_false_of (decide_eq_false r4) ?_
  refine ⟨_, rfl, _, _, rfl, rfl, _, rfl, ?_⟩
  by_cases r7 : r < 7
  · refine if_true_of (decide_eq_true r7) ?_
    refine ⟨_, rfl, _, rfl, pa, _, 0, _, rfl, rfl, hP2, rfl, aw, _, 0, .str w0, rfl, rfl, hW2, at0w, by show 3 ≤ sizeLine; decide, fun t1 ht1 => ?_⟩
    have z1 := Same.new ht1 (.tup [V.str "write", .str (s0 ++ ("A" : Str)), .str w0])
    have n1 : Tn K (upd H2 t1 (.tup [V.str "write", .str (s0 ++ ("A" : Str)), .str w0])) (.ref t1) (.tuple [.str "write", .str (s0 ++ ("A" : Str)), .str w0]) := Tn.new (.cons (.str _) (.cons (.str _) (.cons (.str _) .nil))) ht1
    try dsimp only
    generalize upd H2 t1 (.tup [V.str "write", .str (s0 ++ ("A" : Str)), .str w0]) = H3 at z1 n1
    refine ⟨_, rfl, by show 2 ≤ sizeLine; decide, fun t2 ht2 => ?_⟩
    have z2 := Same.new ht2 (.tup [V.str "read", .str (s0 ++ ("A" : Str))])
    have n2 : Tn K (upd H3 t2 (.tup [V.str "read", .str (s0 ++ ("A" : Str))])) (.ref t2) (.tuple [.str "read", .str (s0 ++ ("A" : Str))]) := Tn.new (.cons (.str _) (.cons (.str _) .nil)) ht2
    try dsimp only
    generalize upd H3 t2 (.tup [V.str "read", .str (s0 ++ ("A" : Str))]) = H4 at z2 n2
    refine ⟨by show 0 ≤ sizeLine; decide, fun t3 ht3 => ?_⟩
    have z3 := Same.new ht3 (.tup [])
    have n3 : Tn K (upd H4 t3 (.tup [])) (.ref t3) (.tuple []) := Tn.new .nil ht3
    try dsimp only
    generalize upd H4 t3 (.tup []) = H5 at z3 n3
    refine ⟨by show 2 ≤ sizeLine; decide, fun t4 ht4 => ?_⟩
    have z4 := Same.new ht4 (.tup [V.str "batch", .ref t3])
    have n4 : Tn K (upd H5 t4 (.tup [V.str "batch", .ref t3])) (.ref t4) (.tuple [.str "batch", .tuple []]) := Tn.new (.cons (.str _) (.cons n3 .nil)) ht4
    try dsimp only
    generalize upd H5 t4 (.tup [V.str "batch", .ref t3]) = H6 at z4 n4
    refine ⟨by show 3 ≤ sizeLine; decide, fun p9 hp9 => ?_⟩
    have z5 := Same.new hp9 (.lst [V.ref t1, .ref t2, .ref t4])
    have zA := z1.trans (z2.trans (z3.trans (z4.trans z5)))
    refine ⟨_, rfl, _, _, rfl, rfl, pickG (K09.Keep.of_same zA) (stGo o2 zA) upd_same (by omega) (by show r - 4 < 3; omega) fun x hx => .inl ?_⟩
    simp only [List.mem_cons, List.not_mem_nil, or_false] at hx
    rcases hx with rfl | rfl | rfl
    · refine ⟨_, Tn.dp (Tn.same (z2.trans (z3.trans (z4.trans z5))) n1), sm_of_tup (by show 3 ≤ 100; decide) fun x hx => ?_⟩
      simp only [List.mem_cons, List.not_mem_nil, or_false] at hx
      rcases hx with rfl | rfl | rfl
      · exact smW 10
      · exact smA ns0 10
      · exact sm_of_nm nw0
    · exact ⟨_, Tn.dp (Tn.same (z3.trans (z4.trans z5)) n2), sm_two (smR 10) (smA ns0 10)⟩
    · exact ⟨_, Tn.dp (Tn.same z5 n4), sm_two (smBt 10) (sm_of_tup (by show 0 ≤ 100; decide) fun x hx => by cases hx)⟩
  refine if_false_of (decide_eq_false r7) ?_
  obtain ⟨x2, rest, eus⟩ : ∃ x2 rest, us = .str d.tag :: x2 :: rest := by
    cases d with
    | rd c => cases hI2 with | cons a1 a2 => cases a1; cases a2 with | cons a3 a4 => exact ⟨_, _, rfl⟩
    | wr s w => cases hI2 with | cons a1 a2 => cases a1; cases a2 with | cons a3 a4 => exact ⟨_, _, rfl⟩
    | bt ps => cases hI2 with | cons a1 a2 => cases a1; cases a2 with | cons a3 a4 => exact ⟨_, _, rfl⟩
  have hbt : d.tag = "batch" → ∃ (b : Addr) (ys : List V) (ps : List (Str × Str)), x2 = .ref b ∧ d = .bt ps ∧ SqT K H2 b ys ∧ TnAll K H2 ys (ps.map wpD) := fun e => by
    cases d with
    | rd c => exact absurd (show ("read" : Str) = "batch" from e) (by decide +kernel)
    | wr s w => exact absurd (show ("write" : Str) = "batch" from e) (by decide +kernel)
    | bt ps =>
      rw [eus] at hI2
      cases hI2 with
      | cons a1 a2 =>
        cases a2 with
        | cons a3 a4 =>
          obtain ⟨b, ys, rfl, hB, hY⟩ := Tn.tup_inv a3
          exact ⟨b, ys, ps, rfl, rfl, hB, hY⟩
  subst eus
  have tagAt : atI (V.str d.tag :: x2 :: rest) 0 = some (.str d.tag) := atI_nat (j := 0) rfl
  have tagAt1 : atI (V.str d.tag :: x2 :: rest) 1 = some x2 := atI_nat (j := 1) rfl
  -- a write twice
  refine ⟨fun σ' H' => σ' = [some (.ref st), some (.ref pa), some (.ref ua), some (.int r), some (.str (s0 ++ ("A" : Str))), none] ∧ H2 = H', ?_, ?_⟩
  · refine ⟨_, rfl, rfl, _, rfl, ?_⟩
    by_cases c7 : r = 7
    · refine if_true_of (decide_eq_true (congrArg V.int c7)) ?_
      refine ⟨_, rfl, ua, _, 0, _, rfl, rfl, hU2, tagAt, rfl, _, rfl, ?_⟩
      by_cases ct : d.tag = "batch"
      · refine if_true_of (decide_eq_true (congrArg V.str ct)) ?_
        obtain ⟨b, ys, ps, rfl, rfl, hB, hY⟩ := hbt ct
        have yl : ys.length = ps.length := by rw [hY.length, List.length_map]
        have p0 : 1 ≤ ps.length := List.length_pos_iff.mpr of.1
        have p4 := of.2.1
        refine ⟨_, rfl, ua, _, 1, _, rfl, rfl, hU2, tagAt1, _, rfl, ua, _, 1, _, rfl, rfl, hU2, tagAt1, ?_⟩
        dsimp only [tNoPart]
        refine ⟨1, rfl, sl_all hB fun c1 H3 z1 hc1 => ?_⟩
        rw [cut_toV1 ys (by omega)] at hc1
        refine cat_all (SqT.same z1 hB) hc1 (Nat.le_of_lt (small1000 (by rw [List.length_take]; omega))) (fun c2 H4 z2 hc2 => ?_)
        refine ⟨by show 2 ≤ sizeLine; decide, fun t ht => ?_⟩
        have z12 := z1.trans z2
        have z3 := z12.trans (Same.new ht (.tup [V.str "batch", .ref c2]))
        have hY4 := TnAll.keep (TK.of_same z12) hY
        refine q _ _ (k2.trans (K09.Keep.of_same z3)) (stGo o2 z3) (.inl ⟨_, Tn.dp (Tn.new (.cons (.str "batch") (.cons (.tup hc2 (TnAll.append hY4 (TnAll.takeN 1 hY4))) .nil)) ht), sm_two (smBt 10) (sm_of_tup (by rw [List.length_append, List.length_take, List.length_map]; omega) fun x hx => ?_)⟩)
        have : x ∈ ps.map wpD := by
          rcases List.mem_append.mp hx with hx | hx
          · exact hx
          · exact List.mem_of_mem_take hx
        obtain ⟨qq, hq, rfl⟩ := List.mem_map.mp this
        exact sm_wpD ok (of.2.2.1 qq hq) 8
      · exact if_false_of (decide_eq_false (fun x => ct (V.str.inj x))) ⟨rfl, rfl⟩
    · exact if_false_of (decide_eq_false (fun x => c7 (V.int.inj x))) ⟨rfl, rfl⟩
  rintro _ _ ⟨rfl, rfl⟩
  -- a list of writes
  refine ⟨fun σ' H' => σ' = [some (.ref st), some (.ref pa), some (.ref ua), some (.int r), some (.str (s0 ++ ("A" : Str))), none] ∧ H2 = H', ?_, ?_⟩
  · refine ⟨_, rfl, rfl, _, rfl, ?_⟩
    by_cases c8 : r = 8
    · refine if_true_of (decide_eq_true (congrArg V.int c8)) ?_
      refine ⟨_, rfl, ua, _, 0, _, rfl, rfl, hU2, tagAt, rfl, _, rfl, ?_⟩
      by_cases ct : d.tag = "batch"
      · refine if_true_of (decide_eq_true (congrArg V.str ct)) ?_
        obtain ⟨b, ys, ps, rfl, rfl, hB, hY⟩ := hbt ct
        have p4 := of.2.1
        refine ⟨_, rfl, ua, _, 1, _, rfl, rfl, hU2, tagAt1, b, ys, rfl, .inr hB, fun l hl => ⟨by show 2 ≤ sizeLine; decide, fun t ht => ?_⟩⟩
        have z1 := Same.new hl (.lst ys)
        have z2 := Same.new ht (.tup [V.str "batch", .ref l])
        have z12 := z1.trans z2
        refine q _ _ (k2.trans (K09.Keep.of_same z12)) (stGo o2 z12) (.inl ⟨_, .tup (SqT.of upd_same) (.cons (.str "batch") (.cons (.lst (SqL.of (z2 _ _ upd_same)) (TnAll.dp (TnAll.keep (TK.of_same z12) hY))) .nil)), sm_two (smBt 10) (sm_of_list (by rw [List.length_map]; omega) fun x hx => ?_)⟩)
        obtain ⟨qq, hq, rfl⟩ := List.mem_map.mp hx
        exact sm_wpD ok (of.2.2.1 qq hq) 8
      · exact if_false_of (decide_eq_false (fun x => ct (V.str.inj x))) ⟨rfl, rfl⟩
    · exact if_false_of (decide_eq_false (fun x => c8 (V.int.inj x))) ⟨rfl, rfl⟩
  rintro _ _ ⟨rfl, rfl⟩
  -- a write of a derived cell
  refine ⟨fun σ' H' => σ' = [some (.ref st), some (.ref pa), some (.ref ua), some (.int r), some (.str (s0 ++ ("A" : Str))), none] ∧ H2 = H', ?_, ?_⟩
  · refine ⟨_, rfl, rfl, _, rfl, ?_⟩
    by_cases c9 : r = 9
    · refine if_true_of (decide_eq_true (congrArg V.int c9)) ?_
      refine ⟨_, rfl, pa, _, 2, _, rfl, rfl, hP2, rfl, .ref ad, _, rfl, .inr ⟨_, hA2, rfl⟩, _, _, rfl, rfl, _, rfl, ?_⟩
      by_cases cx : (0 : Int) < ((xd.length : Nat) : Int)
      · refine if_true_of (decide_eq_true cx) ?_
        have xdl : xd.length = p.derived.length := by rw [hX2.length, List.length_map]
        obtain ⟨x0, hx0⟩ : ∃ x0, xd[0]? = some x0 := ⟨_, List.getElem?_eq_getElem (by omega)⟩
        obtain ⟨d0, hd1, hd2⟩ := hX2.get hx0
        rw [List.getElem?_map] at hd1
        obtain ⟨qq, hqq, rfl⟩ := Option.map_eq_some_iff.mp hd1
        obtain ⟨b, vv, rfl, hQ⟩ := pair_at0 hd2
        have nq : isNm qq.1 = true := O_cells ok _ (List.mem_append_right _ (List.mem_map.mpr ⟨qq, List.mem_of_getElem? hqq, rfl⟩))
        refine ⟨_, rfl, pa, _, 2, _, rfl, rfl, hP2, rfl, ad, _, 0, _, rfl, rfl, hA2, atI_nat (j := 0) hx0, b, _, 0, _, rfl, rfl, hQ, rfl, _, rfl, pa, _, 0, _, rfl, rfl, hP2, rfl, aw, _, 0, .str w0, rfl, rfl, hW2, at0w, by show 2 ≤ sizeLine; decide, fun t1 ht1 => ?_⟩
        have z1 := Same.new ht1 (.tup [V.str qq.1, .str w0])
        have g1 : SqT K (upd H2 t1 (.tup [V.str qq.1, .str w0])) t1 [V.str qq.1, .str w0] := SqT.of upd_same
        try dsimp only
        generalize upd H2 t1 (.tup [V.str qq.1, .str w0]) = H3 at z1 g1
        refine ⟨by show 1 ≤ sizeLine; decide, fun t2 ht2 => ?_⟩
        have z2 := Same.new ht2 (.tup [V.str "write"])
        have g2 : SqT K (upd H3 t2 (.tup [V.str "write"])) t2 [V.str "write"] := SqT.of upd_same
        try dsimp only
        generalize upd H3 t2 (.tup [V.str "write"]) = H4 at z2 g2
        refine ⟨_, rfl, cat_all g2 (SqT.same z2 g1) (by show 1 + 2 ≤ sizeLine; decide) (fun c3 H5 z3 hc3 => ?_)⟩
        refine ⟨_, rfl, by show 1 ≤ sizeLine; decide, fun t4 ht4 => ?_⟩
        have z4 := Same.new ht4 (.tup [V.ref t1])
        have n4 : Tn K (upd H5 t4 (.tup [V.ref t1])) (.ref t4) (.tuple [.tuple [.str qq.1, .str w0]]) := Tn.new (.cons (.tup (SqT.same (z2.trans z3) g1) (.cons (.str _) (.cons (.str _) .nil))) .nil) ht4
        try dsimp only
        generalize upd H5 t4 (.tup [V.ref t1]) = H6 at z4 n4
        refine ⟨by show 2 ≤ sizeLine; decide, fun t5 ht5 => ?_⟩
        have z5 := Same.new ht5 (.tup [V.str "batch", .ref t4])
        have n5 : Tn K (upd H6 t5 (.tup [V.str "batch", .ref t4])) (.ref t5) (.tuple [.str "batch", .tuple [.tuple [.str qq.1, .str w0]]]) := Tn.new (.cons (.str _) (.cons n4 .nil)) ht5
        try dsimp only
        generalize upd H6 t5 (.tup [V.str "batch", .ref t4]) = H7 at z5 n5
        refine ⟨by show 2 ≤ sizeLine; decide, fun p9 hp9 => ?_⟩
        have z6 := Same.new hp9 (.lst [V.ref c3, .ref t5])
        have zA := z1.trans (z2.trans (z3.trans (z4.trans (z5.trans z6))))
        have o8 := stGo o2 zA
        have np : p9 ≠ st := ((stGo o2 (z1.trans (z2.trans (z3.trans (z4.trans z5))))).ne hp9).1
        refine ⟨_, rfl, st, sc, 2, rfl, by decide, by decide, o8, fun r9 H9 g0 g9 k9 o9 _ => ?_⟩
        have tk9 := TK.of_keep k9 o8.chg
        refine pickG ((K09.Keep.of_same zA).trans k9) o9 (k9 _ _ np upd_same) g0 (by show r9 < 2; exact g9) fun x hx => .inl ?_
        simp only [List.mem_cons, List.not_mem_nil, or_false] at hx
        rcases hx with rfl | rfl
        · refine ⟨.tuple ([.str "write"] ++ [.str qq.1, .str w0]), Tn.dp (Tn.keep ((TK.of_same (z4.trans (z5.trans z6))).trans tk9) (.tup hc3 (.cons (.str _) (.cons (.str _) (.cons (.str _) .nil))))), sm_of_tup (by show 3 ≤ 100; decide) fun x hx => ?_⟩
          simp only [List.mem_append, List.mem_cons, List.not_mem_nil, or_false] at hx
          rcases hx with rfl | rfl | rfl
          · exact smW 10
          · exact sm_of_nm nq
          · exact sm_of_nm nw0
        · exact ⟨_, Tn.dp (Tn.keep ((TK.of_same z6).trans tk9) n5), sm_two (smBt 10) (sm_of_tup (by show 1 ≤ 100; decide) fun x hx => by
            rw [List.mem_singleton.mp hx]; exact sm_two (sm_of_nm nq) (sm_of_nm nw0))⟩
      · exact if_false_of (decide_eq_false cx) ⟨rfl, rfl⟩
    · exact if_false_of (decide_eq_false (fun x => c9 (V.int.inj x))) ⟨rfl, rfl⟩
  rintro _ _ ⟨rfl, rfl⟩
  refine ⟨_, rfl, rfl, _, rfl, ?_⟩
  by_cases c10 : r = 10
  · refine if_true_of (decide_eq_true (congrArg V.int c10)) ?_
    refine ⟨_, rfl, pa, _, 1, _, rfl, rfl, hP2, rfl, as, _, 0, .str s0, rfl, rfl, hS2, at0s, _, rfl, pa, _, 0, _, rfl, rfl, hP2, rfl, aw, _, 0, .str w0, rfl, rfl, hW2, at0w, w0, "A", rfl, rfl, Nat.le_of_lt (small1000 (by rw [la]; have := (isNm_len nw0).2.1; omega)), _, rfl, pa, _, 0, _, rfl, rfl, hP2, rfl, aw, _, 0, .str w0, rfl, rfl, hW2, at0w, by show 1 ≤ sizeLine; decide, fun t1 ht1 => ?_⟩
    have z1 := Same.new ht1 (.tup [V.str w0])
    have n1 : Tn K (upd H2 t1 (.tup [V.str w0])) (.ref t1) (.tuple [.str w0]) := Tn.new (.cons (.str _) .nil) ht1
    try dsimp only
    generalize upd H2 t1 (.tup [V.str w0]) = H3 at z1 n1
    refine ⟨by show 4 ≤ sizeLine; decide, fun p2 hp2 => ?_⟩
    have z2 := Same.new hp2 (.lst [V.str (w0 ++ ("A" : Str)), .non, .bl true, .ref t1])
    have zA := z1.trans z2
    have o8 := stGo o2 zA
    have np : p2 ≠ st := ((stGo o2 z1).ne hp2).1
    refine ⟨_, rfl, st, sc, 4, rfl, by decide, by decide, o8, fun r9 H9 g0 g9 k9 o9 _ => ?_⟩
    have tk9 := TK.of_keep k9 o8.chg
    obtain ⟨j, rfl⟩ : ∃ j : Nat, r9 = (j : Nat) := ⟨r9.toNat, by omega⟩
    have hj : j < [V.str (w0 ++ ("A" : Str)), .non, .bl true, .ref t1].length := by show j < 4; omega
    refine ⟨p2, _, _, _, rfl, rfl, SqL.of (k9 _ _ np upd_same), atI_nat (List.getElem?_eq_getElem hj), by show 3 ≤ sizeLine; decide, fun t ht => ?_⟩
    have zB := Same.new ht (.tup [V.str "write", .str s0, [V.str (w0 ++ ("A" : Str)), .non, .bl true, .ref t1][j]])
    have good : ∀ x ∈ [V.str (w0 ++ ("A" : Str)), .non, .bl true, .ref t1], ∃ b, Tn K H9 x b ∧ smB 11 b = true := fun x hx => by
      simp only [List.mem_cons, List.not_mem_nil, or_false] at hx
      rcases hx with rfl | rfl | rfl | rfl
      · exact ⟨_, .str _, smA nw0 10⟩
      · exact ⟨_, .non, rfl⟩
      · exact ⟨_, .bl _, rfl⟩
      · exact ⟨_, Tn.keep ((TK.of_same z2).trans tk9) n1, sm_of_tup (by show 1 ≤ 100; decide) fun x hx => by rw [List.mem_singleton.mp hx]; exact sm_of_nm nw0⟩
    obtain ⟨b, hb1, hb2⟩ := good _ (List.getElem_mem hj)
    refine q _ _ (((k2.trans (K09.Keep.of_same zA)).trans k9).trans (K09.Keep.of_same zB)) (stGo o9 zB) (.inl ⟨_, Tn.dp (Tn.new (.cons (.str "write") (.cons (.str s0) (.cons hb1 .nil))) ht), sm_of_tup (by show 3 ≤ 100; decide) fun x hx => ?_⟩)
    simp only [List.mem_cons, List.not_mem_nil, or_false] at hx
    rcases hx with rfl | rfl | rfl
    · exact smW 10
    · exact sm_of_nm ns0
    · exact hb2
  refine if_false_of (decide_eq_false (fun x => c10 (V.int.inj x))) ?_
  refine ⟨by show 0 ≤ sizeLine; decide, fun t1 ht1 => ?_⟩
  have z1 := Same.new ht1 (.tup [])
  have n1 : Tn K (upd H2 t1 (.tup [])) (.ref t1) (.tuple []) := Tn.new .nil ht1
  try dsimp only
  generalize upd H2 t1 (.tup []) = H3 at z1 n1
  refine ⟨by show 2 ≤ sizeLine; decide, fun t2 ht2 => ?_⟩
  have z2 := Same.new ht2 (.tup [V.int 1, .int 2])
  have n2 : Tn K (upd H3 t2 (.tup [V.int 1, .int 2])) (.ref t2) (.tuple [.int 1, .int 2]) := Tn.new (.cons (.int _) (.cons (.int _) .nil)) ht2
  try dsimp only
  generalize upd H3 t2 (.tup [V.int 1, .int 2]) = H4 at z2 n2
  refine ⟨by show 2 ≤ sizeLine; decide, fun t3 ht3 => ?_⟩
  have z3 := Same.new ht3 (.tup [V.str "batch", .non])
  have n3 : Tn K (upd H4 t3 (.tup [V.str "batch", .non])) (.ref t3) (.tuple [.str "batch", .none]) := Tn.new (.cons (.str _) (.cons .non .nil)) ht3
  try dsimp only
  generalize upd H4 t3 (.tup [V.str "batch", .non]) = H5 at z3 n3
  refine ⟨by show 2 ≤ sizeLine; decide, fun t4 ht4 => ?_⟩
  have z4 := Same.new ht4 (.tup [V.str "read", .non])
  have n4 : Tn K (upd H5 t4 (.tup [V.str "read", .non])) (.ref t4) (.tuple [.str "read", .none]) := Tn.new (.cons (.str _) (.cons .non .nil)) ht4
  try dsimp only
  generalize upd H5 t4 (.tup [V.str "read", .non]) = H6 at z4 n4
  intro dd hdd
  have o6 := stGo o2 (z1.trans (z2.trans (z3.trans z4)))
  have nd := (o6.ne hdd).1
  have z5 := Same.new hdd (.dK [])
  have e5 : upd H6 dd (.dK []) dd = some (.dK []) := upd_same
  try dsimp only
  generalize upd H6 dd (.dK []) = H7 at z5 e5
  refine ⟨by show 9 ≤ sizeLine; decide, fun p9 hp9 => ?_⟩
  have z6 := Same.new hp9 (.lst [V.non, .bl true, .int 3, .str "write", .ref t1, .ref t2, .ref t3, .ref t4, .ref dd])
  have zA := z1.trans (z2.trans (z3.trans (z4.trans (z5.trans z6))))
  have o8 := stGo o2 zA
  have np : p9 ≠ st := ((stGo o6 z5).ne hp9).1
  refine ⟨_, rfl, st, sc, 9, rfl, by decide, by decide, o8, fun r9 H9 g0 g9 k9 o9 _ => ?_⟩
  have tk9 := TK.of_keep k9 o8.chg
  refine pickG ((K09.Keep.of_same zA).trans k9) o9 (k9 _ _ np upd_same) g0 (by show r9 < 9; exact g9) fun x hx => ?_
  simp only [List.mem_cons, List.not_mem_nil, or_false] at hx
  rcases hx with rfl | rfl | rfl | rfl | rfl | rfl | rfl | rfl | rfl
  · exact .inl ⟨_, .non, rfl⟩
  · exact .inl ⟨_, .bl _, rfl⟩
  · exact .inl ⟨_, .int _, rfl⟩
  · exact .inl ⟨_, .str _, smW 11⟩
  · exact .inl ⟨_, Tn.dp (Tn.keep ((TK.of_same (z2.trans (z3.trans (z4.trans (z5.trans z6))))).trans tk9) n1), sm_of_tup (by show 0 ≤ 100; decide) fun x hx => by cases hx⟩
  · exact .inl ⟨_, Tn.dp (Tn.keep ((TK.of_same (z3.trans (z4.trans (z5.trans z6)))).trans tk9) n2), sm_two rfl rfl⟩
  · exact .inl ⟨_, Tn.dp (Tn.keep ((TK.of_same (z4.trans (z5.trans z6))).trans tk9) n3), sm_two (smBt 10) rfl⟩
  · exact .inl ⟨_, Tn.dp (Tn.keep ((TK.of_same (z5.trans z6)).trans tk9) n4), sm_two (smR 10) rfl⟩
  · exact .inr (.base (.dK (k9 _ _ nd (z6 _ _ e5))))
end
end K09
namespace K09
open PySem PySem.Spec PyProof.Rows L2 Td
/-! ### good deeds -/
theorem inStr_mem {L : List Str} {z : Str} (h : z ∈ L) : inStrs L (.str z) = true := decide_eq_true h
theorem isW {p : PP} {s w : Str} (hs : s ∈ p.sources) (hw : w ∈ p.words) : isWriteD p (.tuple [.str s, .str w]) = true := by
  show (inStrs p.sources (.str s) && inStrs p.words (.str w)) = true
  rw [inStr_mem hs, inStr_mem hw]
  rfl
theorem goB {p : PP} : ∀ (ps : List (Str × Str)) (seen : List Str), (∀ q ∈ ps, q.1 ∈ p.sources ∧ q.2 ∈ p.words) → (ps.map (·.1)).Nodup → (∀ q ∈ ps, q.1 ∉ seen) → goBatch p seen (ps.map wpD) = true
  | [], _, _, _, _ => rfl
  | q :: ps, seen, hm, nd, hs => by
    rw [List.map_cons, List.nodup_cons] at nd
    have h1 := hm q List.mem_cons_self
    have h2 := hs q List.mem_cons_self
    show (isWriteD p (wpD q) && (!decide (q.1 ∈ seen) && goBatch p (seen ++ [q.1]) (ps.map wpD))) = true
    rw [show isWriteD p (wpD q) = true from isW h1.1 h1.2, decide_eq_false h2, goB ps (seen ++ [q.1]) (fun x hx => hm x (List.mem_cons_of_mem _ hx)) nd.2 fun x hx hxs => ?_]
    · rfl
    · rcases List.mem_append.mp hxs with h | h
      · exact hs x (List.mem_cons_of_mem _ hx) h
      · exact nd.1 (List.mem_singleton.mp h ▸ List.mem_map_of_mem hx)
theorem isB {p : PP} {ps : List (Str × Str)} (h0 : ps ≠ []) (hm : ∀ q ∈ ps, q.1 ∈ p.sources ∧ q.2 ∈ p.words) (nd : (ps.map (·.1)).Nodup) : isBatchD p (.tuple (ps.map wpD)) = true := by
  show (!(ps.map wpD).isEmpty && goBatch p [] (ps.map wpD)) = true
  rw [goB ps [] hm nd (fun q _ => by simp)]
  cases ps with
  | nil => exact absurd rfl h0
  | cons q ps => rfl
theorem isDeed_eq (p : PP) (t : Str) (x : PyData) (r : List PyData) : isDeedD p (.tuple (.str t :: x :: r)) = (if t = "write" then isWriteD p (.tuple (x :: r)) else if r.isEmpty = false then false else if t = "batch" then isBatchD p x else if t = "read" then inStrs p.cells x else false) := rfl
theorem good_deed {p : PP} : ∀ {d : De}, d.Of p → isDeedD p d.data = true
  | .rd c, h => by
    show isDeedD p (.tuple (.str "read" :: .str c :: [])) = true
    rw [isDeed_eq, if_neg (by decide +kernel), if_neg (by decide), if_neg (by decide +kernel), if_pos rfl]
    exact inStr_mem h
  | .wr s w, h => by
    show isDeedD p (.tuple (.str "write" :: .str s :: [.str w])) = true
    rw [isDeed_eq, if_pos rfl]
    exact isW h.1 h.2
  | .bt ps, h => by
    show isDeedD p (.tuple (.str "batch" :: .tuple (ps.map wpD) :: [])) = true
    rw [isDeed_eq, if_neg (by decide +kernel), if_neg (by decide), if_pos rfl]
    exact isB h.1 h.2.2.1 h.2.2.2
theorem src_nodup {p : PP} {m : Nat} (ok : p.Ok m) : p.sources.Nodup := by
  have := ok.nn.nd
  unfold PP.names at this
  exact (List.nodup_append.mp (List.nodup_append.mp this).1).1
theorem mem_pairs {p : PP} {q : (Nat × Str) × (Nat × Str)} (h : q ∈ pairsW p) : q.1 ∈ wk p ∧ q.2 ∈ wk p ∧ q.1.1 < q.2.1 := by
  unfold pairsW at h
  obtain ⟨a, ha, h⟩ := List.mem_flatMap.mp h
  obtain ⟨b, hb, rfl⟩ := List.mem_map.mp h
  obtain ⟨h1, h2⟩ := List.mem_filter.mp hb
  exact ⟨ha, h1, of_decide_eq_true h2⟩
theorem toW_of {p : PP} {a : Nat × Str} (h : a ∈ wk p) : (toW p a).1 ∈ p.sources ∧ (toW p a).2 ∈ p.words := ⟨List.mem_of_getElem? (wk_src h), (mem_wk h).2⟩
/-- what stands in the list of deeds -/
theorem listed_of {p : PP} {m : Nat} (ok : p.Ok m) {both : Bool} {x : PyData} (h : x ∈ listD p both) : ∃ d : De, d.Of p ∧ x = d.data := by
  unfold listD at h
  rcases List.mem_append.mp h with h | h
  · rcases List.mem_append.mp h with h | h
    · unfold listW at h
      obtain ⟨a, ha, rfl⟩ := List.mem_map.mp h
      exact ⟨.wr (srcAt p a.1) a.2, toW_of ha, rfl⟩
    · cases both with
      | false => cases h
      | true =>
        rw [if_pos rfl] at h
        unfold listB at h
        obtain ⟨q, hq, rfl⟩ := List.mem_map.mp h
        obtain ⟨h1, h2, h3⟩ := mem_pairs hq
        refine ⟨.bt [toW p q.1, toW p q.2], ⟨by simp, by show 2 ≤ 4; decide, fun y hy => ?_, ?_⟩, rfl⟩
        · simp only [List.mem_cons, List.not_mem_nil, or_false] at hy
          rcases hy with rfl | rfl
          · exact toW_of h1
          · exact toW_of h2
        · show [srcAt p q.1.1, srcAt p q.2.1].Nodup
          have hne : srcAt p q.1.1 ≠ srcAt p q.2.1 := fun e => by
            have e1 := wk_src h1
            have e2 := wk_src h2
            rw [← e] at e2
            have := (List.getElem?_inj (mem_wk h1).1 (src_nodup ok)).mp (e1.trans e2.symm)
            omega
          simp [hne]
  · unfold listR at h
    obtain ⟨q, hq, rfl⟩ := List.mem_map.mp h
    exact ⟨.rd q.1, List.mem_append_right _ (List.mem_map.mpr ⟨q, hq, rfl⟩), rfl⟩
theorem deed_sm {p : PP} {m : Nat} (ok : p.Ok m) {d : De} (h : d.Of p) : smB 12 d.data = true := by
  rw [d.data_items]
  exact sm_of_tup (by have := (items_len d).2; omega) (sm_items ok h 8)
theorem listed_lay {p : PP} {m : Nat} (ok : p.Ok m) (both : Bool) : (PyData.list (listD p both)).canLay0 = true ∧ (PyData.list (listD p both)).depth ≤ 60 := by
  obtain ⟨a, b⟩ := sm_all (k := 12) (listD p both) fun x hx => by
    obtain ⟨d, hd, rfl⟩ := listed_of ok hx
    exact sm_lay 12 _ (deed_sm ok hd)
  exact ⟨by simp only [PyData.canLay0, a], by simp only [PyData.depth]; omega⟩
theorem shape_of {d : PyData} (h : d.canLay0 = true) (k : d.depth ≤ 60) : SeqAt.shaped d = true := by
  unfold SeqAt.shaped
  rw [h, Bool.true_and]
  exact decide_eq_true (by omega)
theorem ne_same {K : PySem.W.Frag} {H : Hp} {x y : V} {d : PyData} {Q : VK} (h1 : Dp K H x d) (h2 : Dp K H y d) (hc : d.canLay0 = true) (hd : d.depth ≤ 60) (q : Q (.bl false) H) : rNeD K x y H Q :=
  ⟨d, d, h1, h2, shape_of hc hd, shape_of hc hd, by rw [SeqAt.eqv_refl d hc]; exact q⟩
theorem eq_same {K : PySem.W.Frag} {H : Hp} {x y : V} {d : PyData} {Q : VK} (h1 : Dp K H x d) (h2 : Dp K H y d) (hc : d.canLay0 = true) (hd : d.depth ≤ 60) (q : Q (.bl true) H) : rEqD K x y H Q :=
  ⟨d, d, h1, h2, shape_of hc hd, shape_of hc hd, by rw [SeqAt.eqv_refl d hc]; exact q⟩
theorem ProgAt.keep {K : PySem.W.Frag} {H H' : Hp} {C pa st : Addr} {p : PP} (h : ProgAt K H C pa p) (k : Keep st H H') (n : pa ≠ st) (ch : Chg (H st)) : ProgAt K H' C pa p := by
  obtain ⟨dx, aw, as, vd, ve, ⟨dn, en, e, hdn, hen⟩, h1, h2, h3, h4⟩ := h.ex
  have tk := TK.of_keep k ch
  exact ⟨dx, aw, as, vd, ve, ⟨dn, en, k _ _ n e, SqT.tk tk hdn, SqT.tk tk hen⟩, SqT.tk tk h1, SqT.tk tk h2, Tn.keep tk h3, Tn.keep tk h4⟩
theorem tyDict_aux {K : PySem.W.Frag} {H H' : Hp} {x : V} {t : Value} (s : Same H H') (h : TyX K H x t) (ht : t = .type "dict") : TyX K H' x (.type "dict") := by
  cases h with
  | base h =>
    cases h with
    | dK e => exact .base (.dK (s _ _ e))
    | dT e => exact .base (.dT (s _ _ e))
    | _ => first | exact absurd (Value.type.inj ht) (by decide) | cases ht
  | kDict e c => exact .kDict e c
  | fDict e => exact .fDict (s _ _ e)
  | _ => first | exact absurd (Value.type.inj ht) (by decide) | cases ht
theorem tyDict_same {K : PySem.W.Frag} {H H' : Hp} {x : V} (s : Same H H') (h : TyX K H x (.type "dict")) : TyX K H' x (.type "dict") := tyDict_aux s h rfl
theorem listed_few {p : PP} {m : Nat} (ok : p.Ok m) (both : Bool) : (listD p both).length ≤ 400 := by
  have few := wk_few ok
  have d6 := ok.d6
  have hp : (pairsW p).length ≤ 256 := by
    have : ∀ (l : List (Nat × Str)), (l.flatMap (prsF p)).length ≤ l.length * 16 := fun l => by
      induction l with
      | nil => simp
      | cons a l ih =>
        rw [List.flatMap_cons, List.length_append, List.length_cons]
        have := prs_few ok a
        omega
    have := this (wk p)
    show ((wk p).flatMap (prsF p)).length ≤ 256
    omega
  unfold listD
  rw [List.length_append, List.length_append]
  have h1 : (listW p).length ≤ 16 := by unfold listW; rw [List.length_map]; exact few
  have h3 : (listR p).length ≤ 6 := by unfold listR; rw [List.length_map]; exact d6
  have h2 : (if both = true then listB p else []).length ≤ 256 := by
    cases both with
    | false => exact Nat.zero_le _
    | true => rw [if_pos rfl]; unfold listB; rw [List.length_map]; exact hp
  omega
def spPart (K : PySem.W.Frag) : Sp := fun vs H Q _ => ∃ (a : Addr) (ns : List Int), vs = [.ref a] ∧ SqL K H a (ns.map V.int) ∧ ns.length ≤ 63 ∧ ∀ H', Same H H' → Q (.bl true) H'
section
variable {P : Program} {w : World} {K : PySem.W.Frag} {mg : Str → Option Value} {base : Heap}
theorem ok_first_part (T : Tops w K mg) (G__law_state : FnOk P w K mg base CX0 1 T.a__law_state T.d__law_state ["_law_script"] (spState K))
    (G__law_draw : FnOk P w K mg base CX0 1 T.a__law_draw T.d__law_draw ["_law_state_here", "_law_many_here"] spDraw)
    (G__law_parts : FnOk P w K mg base CX0 11 T.a__law_parts T.d__law_parts ["_law_state_here", "_law_sizes", "_law_peeks", "_law_writes"] (spParts K))
    (G_Program_init : FnOk P w K mg base CX0 10 T.a_Program_init T.d_Program_init ["self", "words", "sources", "derived", "effects"] (spProgram K T.c_Program))
    (G_deeds : FnOk P w K mg base CX0 2 T.a_deeds T.d_deeds ["program", "batches"] (spDeeds K T.c_Program))
    (G__law_listed : FnOk P w K mg base CX0 1 T.a__law_listed T.d__law_listed ["_law_parts_here", "_law_both"] (spListed K))
    (G_is_deed : FnOk P w K mg base CX0 3 T.a_is_deed T.d_is_deed ["program", "value"] (spDeedX K T.c_Program))
    (G__law_deed : FnOk P w K mg base CX0 2 T.a__law_deed T.d__law_deed ["_law_state_here", "_law_parts_here"] (spDeed K))
    (G__law_bad : FnOk P w K mg base CX0 2 T.a__law_bad T.d__law_bad ["_law_state_here", "_law_parts_here", "_law_deed_here"] (spBadDeed K))
    (G__law_good : FnOk P w K mg base CX0 2 T.a__law_good T.d__law_good ["_law_parts_here", "_law_value"] (spLawGood K)) :
    FnOk P w K mg base CX0 12 T.a__law_first_part T.d__law_first_part ["_law_script"] (spPart K) := by
  refine T.F__law_first_part.ok sc_law_first_part (fun vs H Q E h => ?_) (fun cdv A outer s H vs Q E hr h => ?_)
  · obtain ⟨a, ns, rfl, _⟩ := h; rfl
  obtain ⟨a, ns, rfl, hN, hlen, q⟩ := h
  refine ⟨_, (pss_cons (ps_set (i := 1) sc_law_first_part.nd rfl (Or.inl rfl) (pe_call G__law_state (hr.mono (by omega)) rfl T.m__law_state T.F__law_state.kp T.b__law_state .nil pass0 (pa_cons (pv 0) pa_nil)))
    (pss_cons (ps_set (i := 2) sc_law_first_part.nd rfl (Or.inl rfl) (pe_call G__law_draw (hr.mono (by omega)) rfl T.m__law_draw T.F__law_draw.kp T.b__law_draw .nil pass0 (pa_cons (pv 1) (pa_cons pe_int pa_nil))))
    (pss_cons (ps_set (i := 3) sc_law_first_part.nd rfl (Or.inl rfl) (pe_call G__law_parts (hr.mono (by omega)) rfl T.m__law_parts T.F__law_parts.kp T.b__law_parts .nil pass0 (pa_cons (pv 1) (pa_cons (pe_lst (pa_cons pe_int (pa_cons pe_int (pa_cons pe_int (pa_cons pe_int (pa_cons pe_int pa_nil)))))) (pa_cons pe_bl (pa_cons pe_bl pa_nil))))))
    (pss_cons (ps_set (i := 4) sc_law_first_part.nd rfl (Or.inl rfl) (pe_make T.k_Program G_Program_init (hr.mono (by omega)) rfl T.m_Program T.b_Program_init .nil pass0 (pa_cons (pe_ix ix_tup (pv 3) pe_int (fun _ _ => rfl)) (pa_cons (pe_ix ix_tup (pv 3) pe_int (fun _ _ => rfl)) (pa_cons (pe_ix ix_tup (pv 3) pe_int (fun _ _ => rfl)) (pa_cons (pe_ix ix_tup (pv 3) pe_int (fun _ _ => rfl)) pa_nil))))))
    (pss_cons (ps_for PassesOwn.never rfl (pi_range1 rfl T.z_range (pa_cons pe_int pa_nil)) (pg_name (i := 5) sc_law_first_part.nd rfl (Or.inl rfl)) (pss_cons (ps_set (i := 6) sc_law_first_part.nd rfl (Or.inl rfl) (pe_call G_deeds (hr.mono (by omega)) rfl T.m_deeds T.F_deeds.kp T.b_deeds (show Vals [V.bl true] [Value.bool true] from .cons rfl .nil) pass0 (pa_cons (pv 4) pa_nil)))
    (pss_cons (ps_if (PW.pt (pw_or (pt_not (pt_val (pe_callB call_isi rfl T.z_isinstance (by decide +kernel) (pa_cons (pv 6) (pa_cons (pe_bltn (v := .ty "list") rfl T.z_list (by decide +kernel) rfl) pa_nil))))) (pw_or1 (pt_cmpR (op_neD hr.units) (pv 6) (pe_call G__law_listed (hr.mono (by omega)) rfl T.m__law_listed T.F__law_listed.kp T.b__law_listed .nil pass0 (pa_cons (pv 3) (pa_cons pe_bl pa_nil))) (nomark _))))) (pss_one (ps_ret pe_bl)) pss_nil)
    (pss_cons (ps_expr (pe_bm PySem.F.plainAttrs_list PySem.F.slot_list_append PySem.F.type_list_append mt_append (pv 6) (pa_cons pe_non pa_nil)))
    (pss_one (ps_if (pt_cmpR (op_neD hr.units) (pe_callN G_deeds (hr.mono (by omega)) rfl T.m_deeds T.F_deeds.kp T.kb_deeds pass0 (pa_cons (pv 4) pa_nil) (pk_cons (pe_cmpR op_eq (pv 5) pe_int (nomark _)) pk_nil)) (pe_call G__law_listed (hr.mono (by omega)) rfl T.m__law_listed T.F__law_listed.kp T.b__law_listed .nil pass0 (pa_cons (pv 3) (pa_cons (pe_cmpR op_eq (pv 5) pe_int (nomark _)) pa_nil))) (nomark _)) (pss_one (ps_ret pe_bl)) pss_nil))))))
    (pss_cons (ps_for PassesOwn.never rfl (pi_list (pe_call G__law_listed (hr.mono (by omega)) rfl T.m__law_listed T.F__law_listed.kp T.b__law_listed .nil pass0 (pa_cons (pv 3) (pa_cons pe_bl pa_nil)))) (pg_name (i := 7) sc_law_first_part.nd rfl (Or.inl rfl)) (pss_one (ps_if (pt_cmpR op_isnot_bl (pe_call G_is_deed (hr.mono (by omega)) rfl T.m_is_deed T.F_is_deed.kp T.b_is_deed .nil pass0 (pa_cons (pv 4) (pa_cons (pv 7) pa_nil))) pe_bl (nomark _)) (pss_one (ps_ret pe_bl)) pss_nil)))
    (pss_cons (ps_for PassesOwn.never rfl (pi_range1 rfl T.z_range (pa_cons (pv 2) pa_nil)) (pg_name (i := 5) sc_law_first_part.nd rfl (Or.inl rfl)) (pss_cons (ps_set (i := 7) sc_law_first_part.nd rfl (Or.inl rfl) (pe_call G__law_deed (hr.mono (by omega)) rfl T.m__law_deed T.F__law_deed.kp T.b__law_deed .nil pass0 (pa_cons (pv 1) (pa_cons (pv 3) pa_nil))))
    (pss_cons (ps_set (i := 8) sc_law_first_part.nd rfl (Or.inl rfl) (pe_call G__law_bad (hr.mono (by omega)) rfl T.m__law_bad T.F__law_bad.kp T.b__law_bad .nil pass0 (pa_cons (pv 1) (pa_cons (pv 3) (pa_cons (pv 7) pa_nil)))))
    (pss_cons (ps_set (i := 6) sc_law_first_part.nd rfl (Or.inl rfl) (pe_call G_is_deed (hr.mono (by omega)) rfl T.m_is_deed T.F_is_deed.kp T.b_is_deed .nil pass0 (pa_cons (pv 4) (pa_cons (pv 8) pa_nil))))
    (pss_cons (ps_if (PW.pt (pw_or (pt_not (pt_val (pe_callB call_isi rfl T.z_isinstance (by decide +kernel) (pa_cons (pv 6) (pa_cons (pe_bltn (v := .ty "bool") rfl T.z_bool (by decide +kernel) rfl) pa_nil))))) (pw_or1 (pt_cmpR (op_neD hr.units) (pv 6) (pe_call G__law_good (hr.mono (by omega)) rfl T.m__law_good T.F__law_good.kp T.b__law_good .nil pass0 (pa_cons (pv 3) (pa_cons (pv 8) pa_nil))) (nomark _))))) (pss_one (ps_ret pe_bl)) pss_nil)
    (pss_one (ps_if (pt_cmpR op_isnot_bl (pe_call G_is_deed (hr.mono (by omega)) rfl T.m_is_deed T.F_is_deed.kp T.b_is_deed .nil pass0 (pa_cons (pv 4) (pa_cons (pv 7) pa_nil))) pe_bl (nomark _)) (pss_one (ps_ret pe_bl)) pss_nil)))))))
    (pss_one (ps_ret pe_bl))))))))), ?_⟩
  refine ⟨_, rfl, a, ns, rfl, hN, hlen, fun st sc H1 s1 f1 f2 o1 => ?_⟩
  refine ⟨_, rfl, st, sc, 6, rfl, by decide, by decide, o1, fun rm H2 m0 m1 k2 o2 _ => ?_⟩
  refine ⟨_, rfl, by show 5 ≤ sizeLine; decide, fun z hz => ?_⟩
  refine ⟨st, sc, z, 3, 4, 6, 4, 15, true, true, rfl, o2.new hz, SqL.of upd_same, (o2.ne hz).1, by decide, by decide, by decide, by decide, by decide, by decide, by decide, by decide, by decide, by decide, fun v p H4 k4 o4 ok hD => ?_⟩
  obtain ⟨pa, aw, as, vd, ve, rfl, hP, h1, h2, h3, h4⟩ := parts_at hD
  refine ⟨_, rfl, pa, _, 0, _, rfl, rfl, hP, rfl, _, rfl, pa, _, 1, _, rfl, rfl, hP, rfl, _, rfl, pa, _, 2, _, rfl, rfl, hP, rfl, _, rfl, pa, _, 3, _, rfl, rfl, hP, rfl, fun x dx hx hdx hne => ?_⟩
  have sx : Same H4 (upd (upd H4 dx (.own x)) x (.ins T.c_Program dx [])) := (Same.new hdx _).trans (Same.new (by rw [upd_ne (Ne.symm hne)]; exact hx) _)
  refine ⟨x, dx, aw, as, vd, ve, p, _, rfl, upd_same, SqT.same sx h1, SqT.same sx h2, Tn.same sx h3, Tn.same sx h4, ok, by decide, fun dn en H5 s5 hdn hen => ⟨rfl, ?_⟩⟩
  have s46 : Same H4 (upd H5 x (.ins T.c_Program dx (progF aw as vd ve dn en))) := own_same (sx.trans s5) hx
  have hPr : ProgAt K (upd H5 x (.ins T.c_Program dx (progF aw as vd ve dn en))) T.c_Program x p := ⟨dx, aw, as, vd, ve, ⟨dn, en, upd_same, hdn, hen⟩, SqT.same s46 h1, SqT.same s46 h2, Tn.same s46 h3, Tn.same s46 h4⟩
  try dsimp only
  generalize upd H5 x (.ins T.c_Program dx (progF aw as vd ve dn en)) = HB at s46 hPr
  have nx : x ≠ st := (o4.ne hx).1
  have hDB := Tn.same s46 hD
  have oB := stGo o4 s46
  have kHB : Keep st H HB := (K09.Keep.of_same s1).trans (k2.trans ((Keep.new hz).trans (k4.trans (K09.Keep.of_same s46))))
  clear hx hdx sx s5 hdn hen h1 h2 h3 h4 hP hD k4 k2 o2 o1 s1 f2 hz
  have lay := listed_lay ok
  refine ⟨2, rfl, by decide, by decide, for_range (lo := 0) (n := (2 : Int).toNat) (fun i σ H' => ∃ (v5 v6 : Option V), σ = [some (.ref a), some (.ref st), some (.int rm), some (.ref pa), some (.ref x), v5, v6, none, none] ∧ Same HB H')
    ⟨none, none, rfl, Same.refl _⟩ ?_ ?_⟩
  · rintro i σ H6 hi ⟨v5, v6, rfl, s6⟩
    refine ⟨_, rfl, x, p, _, true, rfl, hPr.same s6, ok, fun F zs H7 s7 f7 e7 hz => ?_⟩
    have s67 := s6.trans s7
    refine ⟨_, rfl, .ref F, .ty "list", .type "list", .type "list", true, rfl, .ty _, .base (.lst e7), kit_ty (by decide +kernel), true, rfl, if_false_of rfl ?_⟩
    refine ⟨_, rfl, _, rfl, .ref pa, p, _, true, rfl, Tn.same s67 hDB, ok, fun G ws H8 s8 f8 e8 hw => ?_⟩
    have s68 := s67.trans s8
    have e78 := s8 _ _ e7
    refine ne_same (d := .list (listD p true)) (.lst (SqL.of e78) (TnAll.dp (TnAll.keep (TK.of_same s8) hz))) (.lst (SqL.of e8) (TnAll.dp hw)) (lay true).1 (lay true).2 ⟨_, rfl, if_false_of rfl ?_⟩
    have zl : zs.length ≤ 400 := by rw [hz.length]; exact listed_few ok true
    refine ⟨_, rfl, .inl ⟨rfl, _, SqL.of e78⟩, F, zs, _, rfl, rfl, e78, small1000 (by omega), ?_⟩
    have fB : HB F = none := by
      cases y : HB F with
      | none => rfl
      | some o => rw [s6 _ _ y] at f7; cases f7
    have s9 : Same HB (upd H8 F (.lst (zs ++ [.non]))) := K09.Same.own s68 fB
    try dsimp only
    generalize upd H8 F (.lst (zs ++ [.non])) = H9 at s9
    refine ⟨_, rfl, _, rfl, rfl, rfl, rfl, x, p, _, _, rfl, hPr.same s9, ok, fun F2 ys H10 s10 f10 e10 hy => ?_⟩
    have s910 := s9.trans s10
    refine ⟨_, rfl, _, rfl, rfl, .ref pa, p, _, _, rfl, Tn.same s910 hDB, ok, fun G2 us H11 s11 f11 e11 hu => ?_⟩
    have e1011 := s11 _ _ e10
    refine ne_same (.lst (SqL.of e1011) (TnAll.dp (TnAll.keep (TK.of_same s11) hy))) (.lst (SqL.of e11) (TnAll.dp hu)) (lay _).1 (lay _).2 ⟨_, rfl, if_false_of rfl ?_⟩
    exact ⟨_, _, rfl, s910.trans s11⟩
  rintro σ H6 ⟨v5, v6, rfl, s6⟩
  refine ⟨_, rfl, .ref pa, p, _, true, rfl, Tn.same s6 hDB, ok, fun G ws H7 s7 f7 e7 hw => ⟨G, rfl, ⟨_, SqL.of e7⟩, for_list (K := K) (a := G) (xs := ws) (fun i σ H' => ∃ (v7 : Option V), σ = [some (.ref a), some (.ref st), some (.int rm), some (.ref pa), some (.ref x), v5, v6, v7, none] ∧ Same H7 H')
    ⟨none, rfl, Same.refl _⟩ (fun i σ H' _ ⟨_, _, s'⟩ => SqL.of (s' _ _ e7)) ?_ ?_⟩⟩
  · rintro i y σ H8 hy ⟨v7, rfl, s8⟩
    obtain ⟨d0, hd1, hd2⟩ := (TnAll.keep (TK.of_same s8) hw).get hy
    obtain ⟨d, of, rfl⟩ := listed_of ok (List.mem_of_getElem? hd1)
    refine ⟨_, rfl, _, rfl, .inl ⟨x, y, p, _, d.data, 12, rfl, hPr.same ((s6.trans s7).trans s8), ok, Tn.dp hd2, deed_sm ok of, by decide, fun H9 s9 => ?_⟩⟩
    refine ⟨_, _, rfl, rfl, _, rfl, if_false_of (by rw [good_deed of]; rfl) ?_⟩
    exact ⟨_, rfl, s8.trans s9⟩
  rintro σ H8 ⟨v7, rfl, s8⟩
  have s0 := (s6.trans s7).trans s8
  have o8 := stGo oB s0
  have hP8 := hPr.same s0
  have hD8 := Tn.same s0 hDB
  refine ⟨_, rfl, rm, rfl, by omega, by omega, for_range (lo := 0) (n := rm.toNat) (fun i σ H' => ∃ (v5 v6 v7 v8 : Option V), σ = [some (.ref a), some (.ref st), some (.int rm), some (.ref pa), some (.ref x), v5, v6, v7, v8] ∧ Keep st H8 H' ∧ StOk H' st sc)
    ⟨v5, v6, v7, none, rfl, Keep.refl _ _, o8⟩ ?_ ?_⟩
  · rintro i σ H9 hi ⟨v5, v6, v7, v8, rfl, k9, o9⟩
    have tk9 := TK.of_keep k9 o8.chg
    refine ⟨_, rfl, _, rfl, st, sc, .ref pa, p, _, rfl, o9, Tn.keep tk9 hD8, ok, fun u d H10 k10 o10 of hd => ?_⟩
    have k810 := k9.trans k10
    refine ⟨_, rfl, _, rfl, _, rfl, st, sc, .ref pa, u, p, _, d, rfl, o10, Tn.keep (TK.of_keep k810 o8.chg) hD8, ok, hd, of, fun b H11 k11 o11 hb => ?_⟩
    have k811 := k810.trans k11
    have hd11 := Tn.keep (TK.of_keep k11 o10.chg) hd
    have hD11 := Tn.keep (TK.of_keep k811 o8.chg) hD8
    have hP11 := hP8.keep k811 nx o8.chg
    rcases hb with ⟨bd, hB, smb⟩ | hB
    · refine ⟨_, rfl, _, rfl, .inl ⟨x, b, p, _, bd, 12, rfl, hP11, ok, hB, smb, by decide, fun H12 s12 => ?_⟩⟩
      refine ⟨_, rfl, .bl _, .ty "bool", .type "bool", .type "bool", true, rfl, .ty _, .base (.bl _), kit_ty (by decide +kernel), true, rfl, if_false_of rfl ?_⟩
      refine ⟨_, rfl, _, rfl, _, rfl, .ref pa, b, p, _, rfl, Tn.same s12 hD11, ok, .inl ⟨bd, 12, Dp.same s12 hB, smb, by decide, fun H13 s13 => ?_⟩⟩
      refine ne_same (d := .bool (isDeedD p bd)) (.bl _) (.bl _) rfl (by simp [PyData.depth]) ⟨_, rfl, if_false_of rfl ?_⟩
      have s123 := s12.trans s13
      refine ⟨_, rfl, _, rfl, .inl ⟨x, u, p, _, d.data, 12, rfl, hP11.same s123, ok, Tn.dp (Tn.same s123 hd11), deed_sm ok of, by decide, fun H14 s14 => ?_⟩⟩
      refine ⟨_, _, rfl, rfl, _, rfl, if_false_of (by rw [good_deed of]; rfl) ?_⟩
      have s124 := s123.trans s14
      exact ⟨_, _, _, _, rfl, k811.trans (K09.Keep.of_same s124), stGo o11 s124⟩
    · refine ⟨_, rfl, _, rfl, .inr ⟨x, b, rfl, hB, fun H12 s12 => ?_⟩⟩
      refine ⟨_, rfl, .bl _, .ty "bool", .type "bool", .type "bool", true, rfl, .ty _, .base (.bl _), kit_ty (by decide +kernel), true, rfl, if_false_of rfl ?_⟩
      refine ⟨_, rfl, _, rfl, _, rfl, .ref pa, b, p, _, rfl, Tn.same s12 hD11, ok, .inr ⟨tyDict_same s12 hB, fun H13 s13 => ?_⟩⟩
      refine ne_same (d := .bool false) (.bl _) (.bl _) rfl (by simp [PyData.depth]) ⟨_, rfl, if_false_of rfl ?_⟩
      have s123 := s12.trans s13
      refine ⟨_, rfl, _, rfl, .inl ⟨x, u, p, _, d.data, 12, rfl, hP11.same s123, ok, Tn.dp (Tn.same s123 hd11), deed_sm ok of, by decide, fun H14 s14 => ?_⟩⟩
      refine ⟨_, _, rfl, rfl, _, rfl, if_false_of (by rw [good_deed of]; rfl) ?_⟩
      have s124 := s123.trans s14
      exact ⟨_, _, _, _, rfl, k811.trans (K09.Keep.of_same s124), stGo o11 s124⟩
  rintro σ H9 ⟨v5, v6, v7, v8, rfl, k9, o9⟩
  have kE := (kHB.trans (K09.Keep.of_same s0)).trans k9
  exact q _ fun b o e => kE b o (fun z => by rw [z, f1] at e; cases e) e
end
end K09
namespace K09
open PySem PySem.Spec PyProof.Rows L2 Td
/-- a def that lets nothing out of what it is asked here -/
theorem calm_out {P : Program} {w : World} {K : PySem.W.Frag} {mg : Str → Option Value} {base : Heap} {k : Nat} {f : Addr} {fd : FuncData} {ps : List Str} {s1 s2 : Sp} (G : FnOk P w K mg base (L2.CX P w) k f fd ps s1) (h : ∀ vs H Q E, s2 vs H Q E → s1 vs H Q fun _ _ _ => False) : FnOk P w K mg base CX0 k f fd ps s2 :=
  ⟨fun vs H Q E z => G.len vs H Q _ (h vs H Q E z), fun A outer s H args us vs Q E hr he hb hv hs => codeAny_mono (G.run A outer s H args us vs Q (fun _ _ _ => False) hr he hb hv (h vs H Q E hs)) fun r s' hq => by
    cases r with
    | error e => obtain ⟨a, B, H', cls, d, _, _, _, _, _, _, _, z⟩ := hq; exact z.elim
    | ok fl => cases fl <;> exact hq⟩
def spRuleOk (K : PySem.W.Frag) (CR : Addr) : Sp := fun vs H Q _ => ∃ (x dx : Addr) (v1 v2 v3 : V) (d1 d2 d3 : PyData), vs = [.ref x, v1, v2, v3] ∧ H x = some (.ins CR dx []) ∧ Dp K H v1 d1 ∧ Dp K H v2 d2 ∧ Dp K H v3 d3 ∧
  SeqAt.shaped d1 = true ∧ SeqAt.shaped d3 = true ∧ ruleFault d1 d2 d3 = none ∧ Q .non (upd H x (.ins CR dx (ruleF v1 v2 v3)))
def combos : List (Str × Bool × Str) := modesL.flatMap fun m => [false, true].flatMap fun c => innersL.map fun n => (m, c, n)
/-- rules in a row -/
def RulesAt (H : Hp) (CR : Addr) (rs : List V) (qs : List (Str × Bool × Str)) : Prop := rs.length = qs.length ∧ ∀ (i : Nat) (q : Str × Bool × Str), qs[i]? = some q → ∃ a, rs[i]? = some (.ref a) ∧ RuleAt H CR a q
def spAllRules (CR : Addr) : Sp := fun vs H Q _ => vs = [] ∧ ∀ (D : Addr) (rs : List V) H', Same H H' → H D = none → H' D = some (.lst rs) → RulesAt H' CR rs combos → Q (.ref D) H'
def qD (q : Str × Bool × Str) : PyData := .tuple [.str q.1, .bool q.2.1, .str q.2.2]
theorem qD_eq (q r : Str × Bool × Str) : PyData.eqv (qD q) (qD r) = decide (q = r) := by
  obtain ⟨a, b, c⟩ := q
  obtain ⟨x, y, z⟩ := r
  unfold qD
  simp only [PyData.eqv, PyData.eqvAll, Bool.and_true]
  by_cases h1 : a = x
  · by_cases h2 : b = y
    · by_cases h3 : c = z
      · subst h1 h2 h3; simp
      · simp [h1, h2, h3]
    · simp [h1, h2]
  · simp [h1]
theorem qD_lay {q : Str × Bool × Str} (h1 : q.1 ∈ modesL) (h2 : q.2.2 ∈ innersL) : (qD q).canLay0 = true ∧ (qD q).depth ≤ 2 := by
  obtain ⟨a, b⟩ := sm_lay 2 (qD q) (sm_of_tup (by show 3 ≤ 100; decide) fun x hx => by
    simp only [List.mem_cons, List.not_mem_nil, or_false] at hx
    rcases hx with rfl | rfl | rfl
    · exact sm_of_nm (modes_nm _ h1)
    · rfl
    · exact sm_of_nm (inners_nm _ h2))
  exact ⟨a, b⟩
theorem nm_sh {z : Str} (h : isNm z = true) : SeqAt.shaped (.str z) = true := shape_of (sm_lay 1 _ (sm_of_nm h)).1 (Nat.le_trans (sm_lay 1 _ (sm_of_nm h)).2 (by decide))
theorem good_rule {q : Str × Bool × Str} (h1 : q.1 ∈ modesL) (h2 : q.2.2 ∈ innersL) : ruleFault (.str q.1) (.bool q.2.1) (.str q.2.2) = none := rf_none (inStr_mem h1) rfl (inStr_mem h2)
/-- a value in the spoilt rule -/
inductive BV (K : PySem.W.Frag) (H : Hp) (l st : Addr) : V → PyData → Prop
  | flat {v : V} {d : PyData} : (∀ H', Dp K H' v d) → d.canLay0 = true → d.depth ≤ 2 → BV K H l st v d
  | once {c : Addr} : c ≠ l → c ≠ st → H c = some (.lst [.str "once"]) → BV K H l st (.ref c) (.list [.str "once"])
section
variable {K : PySem.W.Frag} {H H' : Hp} {l st : Addr} {v : V} {d : PyData}
theorem once_lay : (PyData.list [.str ("once" : Str)]).canLay0 = true ∧ (PyData.list [.str ("once" : Str)]).depth ≤ 2 := by
  obtain ⟨a, b⟩ := sm_lay 2 (.list [.str ("once" : Str)]) (by decide +kernel)
  exact ⟨a, b⟩
theorem BV.dp (h : BV K H l st v d) : Dp K H v d := by
  cases h with
  | flat h _ _ => exact h H
  | once _ _ e => exact .lst (SqL.of e) (.cons (.str _) .nil)
theorem BV.lay (h : BV K H l st v d) : d.canLay0 = true ∧ d.depth ≤ 2 := by
  cases h with
  | flat _ a b => exact ⟨a, b⟩
  | once _ _ _ => exact once_lay
theorem BV.sh (h : BV K H l st v d) : SeqAt.shaped d = true := shape_of h.lay.1 (Nat.le_trans h.lay.2 (by decide))
theorem BV.keep (k : ∀ b o, b ≠ st → b ≠ l → H b = some o → H' b = some o) (h : BV K H l st v d) : BV K H' l st v d := by
  cases h with
  | flat h a b => exact .flat h a b
  | once n1 n2 e => exact .once n1 n2 (k _ _ n2 n1 e)
end
theorem bv_str {K : PySem.W.Frag} {H : Hp} {l st : Addr} {z : Str} (h : smB 2 (.str z) = true) : BV K H l st (.str z) (.str z) := .flat (fun _ => .str z) (sm_lay 2 _ h).1 (sm_lay 2 _ h).2
theorem vals_ok : ∀ z ∈ ([("push" : Str), "pull", "level", "once", "later", "Push", ""]), smB 2 (.str z) = true := by
  have : ([("push" : Str), "pull", "level", "once", "later", "Push", ""]).all (fun z => smB 2 (.str z)) = true := by decide +kernel
  exact fun z hz => List.all_eq_true.mp this z hz
theorem made_lay {d1 d2 d3 : PyData} {z : Str} (hz : smB 2 (.str z) = true) (h1 : d1.canLay0 = true ∧ d1.depth ≤ 2) (h2 : d2.canLay0 = true ∧ d2.depth ≤ 2) (h3 : d3.canLay0 = true ∧ d3.depth ≤ 2) : (PyData.tuple [.str z, d1, d2, d3]).canLay0 = true ∧ (PyData.tuple [.str z, d1, d2, d3]).depth ≤ 60 := by
  have hz' := sm_lay 2 _ hz
  refine ⟨?_, ?_⟩
  · simp only [PyData.canLay0, PyData.canLayAll0] at hz' ⊢
    simp [hz'.1, h1.1, h2.1, h3.1]
  · simp only [PyData.depth, PyData.depthAll] at hz' ⊢
    omega
theorem fault_str {d1 d2 d3 : PyData} {pt : Str} (h : ruleFault d1 d2 d3 = some pt) : smB 2 (.str pt) = true := by
  have k : smB 2 (.str ("mode" : Str)) = true ∧ smB 2 (.str ("cut" : Str)) = true ∧ smB 2 (.str ("inner" : Str)) = true := by decide +kernel
  unfold ruleFault at h
  split at h
  · cases h; exact k.1
  · split at h
    · cases h; exact k.2.1
    · split at h
      · cases h; exact k.2.2
      · cases h
theorem kw_rule : smB 2 (.str ("rule" : Str)) = true ∧ smB 2 (.str ("wrong" : Str)) = true := by decide +kernel
section
variable {P : Program} {w : World} {K : PySem.W.Frag} {mg : Str → Option Value} {base : Heap}
theorem ok_second_part (T : Tops w K mg) (G__law_state : FnOk P w K mg base CX0 1 T.a__law_state T.d__law_state ["_law_script"] (spState K))
    (G__law_draw : FnOk P w K mg base CX0 1 T.a__law_draw T.d__law_draw ["_law_state_here", "_law_many_here"] spDraw)
    (G__law_rule : FnOk P w K mg base CX0 2 T.a__law_rule T.d__law_rule ["_law_state_here"] (spLawRule K))
    (G__law_made : FnOk P w K mg base CX0 5 T.a__law_made T.d__law_made ["_law_parts_here"] (spMadeR K))
    (G__law_fault : FnOk P w K mg base CX0 1 T.a__law_fault T.d__law_fault ["_law_parts_here"] (spFault K))
    (G_Rule_init : FnOk P w K mg base CX0 3 T.a_Rule_init T.d_Rule_init ["self", "mode", "cut", "inner"] (spRuleOk K T.c_Rule))
    (G_Rule_eq : FnOk P w K mg base CX0 1 T.a_Rule_eq T.d_Rule_eq ["self", "other"] (spRuleEq K T.c_Rule))
    (G_all_rules : FnOk P w K mg base CX0 5 T.a_all_rules T.d_all_rules [] (spAllRules T.c_Rule)) :
    FnOk P w K mg base CX0 12 T.a__law_second_part T.d__law_second_part ["_law_script"] (spPart K) := by
  refine T.F__law_second_part.ok sc_law_second_part (fun vs H Q E h => ?_) (fun cdv A outer s H vs Q E hr h => ?_)
  · obtain ⟨a, ns, rfl, _⟩ := h; rfl
  obtain ⟨a, ns, rfl, hN, hlen, q⟩ := h
  refine ⟨_, (pss_cons (ps_set (i := 1) sc_law_second_part.nd rfl (Or.inr rfl) (pe_call G__law_state (hr.mono (by omega)) rfl T.m__law_state T.F__law_state.kp T.b__law_state .nil pass0 (pa_cons (pv 0) pa_nil)))
    (pss_cons (ps_setLc (i := 2) (own := [("_law_turn", 11)]) (g := gName 11) (tt := tYes) (te := tCall spDraw [] E0 (tCons (tVar 1) (tCons (tC (.int 6)) tNil))) rfl sc_law_second_part.nd rfl rfl (sw_true rfl rfl rfl (by decide +kernel)) (pi_range1 rfl T.z_range (pa_cons pe_int pa_nil)) (blkOk_by (own := [("_law_turn", 11)]) (N := N_law_second_part) (sc := defScope s_law_second_part) (by decide +kernel)) (fun _ _ _ _ _ => (pg_name (i := 11) sc_law_second_part.nd rfl (Or.inl rfl))) (fun _ _ _ _ _ => pts_nil) (fun _ _ _ _ _ => (pe_call G__law_draw (hr.mono (by omega)) rfl T.m__law_draw T.F__law_draw.kp T.b__law_draw .nil pass0 (pa_cons (pv 1) (pa_cons pe_int pa_nil)))))
    (pss_cons (ps_set (i := 3) sc_law_second_part.nd rfl (Or.inl rfl) (pe_call G__law_rule (hr.mono (by omega)) rfl T.m__law_rule T.F__law_rule.kp T.b__law_rule .nil pass0 (pa_cons (pv 1) pa_nil)))
    (pss_cons (ps_set (i := 4) sc_law_second_part.nd rfl (Or.inl rfl) (pe_call G__law_rule (hr.mono (by omega)) rfl T.m__law_rule T.F__law_rule.kp T.b__law_rule .nil pass0 (pa_cons (pv 1) pa_nil)))
    (pss_cons (ps_set (i := 5) sc_law_second_part.nd rfl (Or.inl rfl) (pe_callTy call_list_of rfl T.z_list (by decide +kernel) (pa_cons (pv 3) pa_nil)))
    (pss_cons (ps_for PassesOwn.never rfl (pi_list (pv 2)) (pg_name (i := 6) sc_law_second_part.nd rfl (Or.inl rfl)) (pss_one (ps_if (pt_cmpR op_lt (pv 6) pe_int (nomark _)) (pss_cons (ps_set (i := 7) sc_law_second_part.nd rfl (Or.inl rfl) (pe_lst (pa_cons pe_str (pa_cons pe_str (pa_cons pe_str (pa_cons pe_str (pa_cons pe_str (pa_cons pe_str (pa_cons pe_str (pa_cons pe_non (pa_cons pe_int (pa_cons pe_int (pa_cons pe_bl (pa_cons pe_bl (pa_cons (pe_lst (pa_cons pe_str pa_nil)) pa_nil)))))))))))))))
    (pss_one (ps_asg (pe_ix ix_list (pv 7) (pe_call G__law_draw (hr.mono (by omega)) rfl T.m__law_draw T.F__law_draw.kp T.b__law_draw .nil pass0 (pa_cons (pv 1) (pa_cons pe_int pa_nil))) (fun _ _ => rfl)) (pg_sub (pv 5) (pv 6) set_list)))) pss_nil)))
    (pss_cons (ps_set (i := 8) sc_law_second_part.nd rfl (Or.inl rfl) (pe_call G__law_fault (hr.mono (by omega)) rfl T.m__law_fault T.F__law_fault.kp T.b__law_fault .nil pass0 (pa_cons (pv 5) pa_nil)))
    (C8.pss_cut (ps_if (PW.pt (pw_and (pt_cmpR op_isN (pv 8) pe_non (nomark _)) (pw_and1 (pt_cmpR (op_neD hr.units) (pe_call G__law_made (hr.mono (by omega)) rfl T.m__law_made T.F__law_made.kp T.b__law_made .nil pass0 (pa_cons (pv 5) pa_nil)) (pe_tup (pa_cons pe_str (pa_cons (pe_ix ix_list (pv 5) pe_int (fun _ _ => rfl)) (pa_cons (pe_ix ix_list (pv 5) pe_int (fun _ _ => rfl)) (pa_cons (pe_ix ix_list (pv 5) pe_int (fun _ _ => rfl)) pa_nil))))) (nomark _))))) (pss_one (ps_ret pe_bl)) pss_nil)
    (C8.pss_cut (ps_if (PW.pt (pw_and (pt_cmpR op_notN (pv 8) pe_non (nomark _)) (pw_and1 (pt_cmpR (op_neD hr.units) (pe_call G__law_made (hr.mono (by omega)) rfl T.m__law_made T.F__law_made.kp T.b__law_made .nil pass0 (pa_cons (pv 5) pa_nil)) (pe_tup (pa_cons pe_str (pa_cons (pv 8) (pa_cons pe_bl (pa_cons pe_bl pa_nil))))) (nomark _))))) (pss_one (ps_ret pe_bl)) pss_nil)
    (pss_cons (ps_set (i := 9) sc_law_second_part.nd rfl (Or.inl rfl) (pe_make T.k_Rule G_Rule_init (hr.mono (by omega)) rfl T.m_Rule T.b_Rule_init .nil pass0 (pa_cons (pe_ix ix_tup (pv 3) pe_int (fun _ _ => rfl)) (pa_cons (pe_ix ix_tup (pv 3) pe_int (fun _ _ => rfl)) (pa_cons (pe_ix ix_tup (pv 3) pe_int (fun _ _ => rfl)) pa_nil)))))
    (pss_cons (ps_set (i := 10) sc_law_second_part.nd rfl (Or.inl rfl) (pe_make T.k_Rule G_Rule_init (hr.mono (by omega)) rfl T.m_Rule T.b_Rule_init .nil pass0 (pa_cons (pe_ix ix_tup (pv 4) pe_int (fun _ _ => rfl)) (pa_cons (pe_ix ix_tup (pv 4) pe_int (fun _ _ => rfl)) (pa_cons (pe_ix ix_tup (pv 4) pe_int (fun _ _ => rfl)) pa_nil)))))
    (pss_cons (ps_if (PW.pt (pw_or (pt_cmpR op_ne (pe_cmpR (op_eqO G_Rule_eq T.xq_Rule T.xf_Rule T.b_Rule_eq (hr.mono (by omega))) (pv 9) (pv 10) (nomark _)) (pe_cmpR (op_eqD hr.units) (pv 3) (pv 4) (nomark _)) (nomark _)) (pw_or1 (pt_not (pt_cmpR (op_eqO G_Rule_eq T.xq_Rule T.xf_Rule T.b_Rule_eq (hr.mono (by omega))) (pv 9) (pv 9) (nomark _)))))) (pss_one (ps_ret pe_bl)) pss_nil)
    (pss_cons (ps_for PassesOwn.never rfl (pi_range1 rfl T.z_range (pa_cons pe_int pa_nil)) (pg_name (i := 11) sc_law_second_part.nd rfl (Or.inl rfl)) (pss_cons (ps_set (i := 12) sc_law_second_part.nd rfl (Or.inl rfl) (pe_call0 G_all_rules (hr.mono (by omega)) rfl T.m_all_rules T.F_all_rules.kp T.b_all_rules .nil pass0))
    (pss_cons (ps_if (PW.pt (pw_or (pt_not (pt_val (pe_callB call_isi rfl T.z_isinstance (by decide +kernel) (pa_cons (pv 12) (pa_cons (pe_bltn (v := .ty "list") rfl T.z_list (by decide +kernel) rfl) pa_nil))))) (pw_or1 (pt_cmpR op_ne (pe_callB call_len rfl T.z_len PySem.boot_len (pa_cons (pv 12) pa_nil)) pe_int (nomark _))))) (pss_one (ps_ret pe_bl)) pss_nil)
    (pss_cons (ps_set (i := 13) sc_law_second_part.nd rfl (Or.inl rfl) (pe_lst pa_nil))
    (pss_cons (ps_for PassesOwn.never rfl (pi_list (pe_lst (pa_cons pe_str (pa_cons pe_str (pa_cons pe_str pa_nil))))) (pg_name (i := 14) sc_law_second_part.nd rfl (Or.inl rfl)) (pss_one (ps_for PassesOwn.never rfl (pi_list (pe_lst (pa_cons pe_bl (pa_cons pe_bl pa_nil)))) (pg_name (i := 15) sc_law_second_part.nd rfl (Or.inl rfl)) (pss_one (ps_for PassesOwn.never rfl (pi_list (pe_lst (pa_cons pe_str (pa_cons pe_str pa_nil)))) (pg_name (i := 16) sc_law_second_part.nd rfl (Or.inl rfl)) (pss_one (ps_expr (pe_bm PySem.F.plainAttrs_list PySem.F.slot_list_append PySem.F.type_list_append mt_append (pv 13) (pa_cons (pe_tup (pa_cons (pv 14) (pa_cons (pv 15) (pa_cons (pv 16) pa_nil)))) pa_nil)))))))))
    (pss_cons (ps_if (pt_cmpR (op_neD hr.units) (pe_lc (own := [("_law_rule_here", 17)]) (g := gName 17) (tt := tYes) (te := tTup (tCons (tFld K (tVar 17) "mode") (tCons (tFld K (tVar 17) "cut") (tCons (tFld K (tVar 17) "inner") tNil)))) rfl sc_law_second_part.nd (pi_list (pv 12)) (blkOk_by (own := [("_law_rule_here", 17)]) (N := N_law_second_part) (sc := defScope s_law_second_part) (by decide +kernel)) (fun _ _ _ _ _ => (pg_name (i := 17) sc_law_second_part.nd rfl (Or.inl rfl))) (fun _ _ _ _ _ => pts_nil) (fun _ _ _ _ _ => (pe_tup (pa_cons (pe_fld (pv 17) rfl) (pa_cons (pe_fld (pv 17) rfl) (pa_cons (pe_fld (pv 17) rfl) pa_nil)))))) (pv 13) (nomark _)) (pss_one (ps_ret pe_bl)) pss_nil)
    (pss_one (ps_expr (pe_bm PySem.F.plainAttrs_list PySem.F.slot_list_append PySem.F.type_list_append mt_append (pv 12) (pa_cons (pv 9) pa_nil))))))))))
    (pss_one (ps_ret pe_bl))))))))))))))), ?_⟩
  refine ⟨_, rfl, a, ns, rfl, hN, hlen, fun st sc H1 s1 f1 f2 o1 => ?_⟩
  refine ⟨2, rfl, by decide, by decide, fun sl hsl => lc_range (lo := 0) (n := (2 : Int).toNat) (fun i H' => ∃ us : List Int, Keep st H1 H' ∧ StOk H' st sc ∧ H' sl = some (.lst (us.map V.int)) ∧ us.length = i ∧ ∀ u ∈ us, 0 ≤ u ∧ u < 6)
    ⟨[], Keep.new hsl, o1.new hsl, upd_same, rfl, by simp⟩ ?_ ?_⟩
  · rintro i H2 hi ⟨us, k2, o2, e2, ul, hu⟩
    refine ⟨rfl, tYes_of ?_⟩
    have nS := o1.ne hsl
    refine ⟨_, rfl, st, sc, 6, rfl, by decide, by decide, o2, fun r H3 g0 g1 k3 o3 _ => ?_⟩
    have e3 := k3 _ _ nS.1 e2
    refine ⟨us.map V.int, e3, small1000 (by rw [List.length_map, ul]; have : i < 2 := hi; omega), us ++ [r], Keep.own (k2.trans k3) hsl, o3.other nS.1 nS.2, by rw [upd_same, List.map_append]; rfl, by simp [ul], fun x hx => ?_⟩
    rcases List.mem_append.mp hx with hx | hx
    · exact hu x hx
    · rw [List.mem_singleton.mp hx]; exact ⟨g0, g1⟩
  rintro H2 ⟨us, k2, o2, e2, ul, hu⟩
  have nS := (o1.ne hsl).1
  refine ⟨_, rfl, st, sc, rfl, o2, fun u1 q1 H3 k3 o3 a1 b1 t1 => ?_⟩
  refine ⟨_, rfl, st, sc, rfl, o3, fun u2 q2 H4 k4 o4 a2 b2 t2 => ?_⟩
  have t1' := SqT.tk (TK.of_keep k4 o3.chg) t1
  have e4 := (k3.trans k4) _ _ nS e2
  refine ⟨_, rfl, u1, _, rfl, .inr t1', fun l hl => ?_⟩
  have nl := o4.ne hl
  have o5 := o4.new (o := .lst [V.str q1.1, .bl q1.2.1, .str q1.2.2]) hl
  have z5 := Same.new hl (.lst [V.str q1.1, .bl q1.2.1, .str q1.2.2])
  have el : upd H4 l (.lst [V.str q1.1, .bl q1.2.1, .str q1.2.2]) l = some (.lst [V.str q1.1, .bl q1.2.1, .str q1.2.2]) := upd_same
  have nls : sl ≠ l := ne_of_none e4 hl
  have e5 := z5 _ _ e4
  have T1 := SqT.same z5 t1'
  have T2 := SqT.same z5 t2
  try dsimp only
  generalize upd H4 l (.lst [V.str q1.1, .bl q1.2.1, .str q1.2.2]) = H5 at o5 z5 el e5 T1 T2
  refine ⟨_, rfl, sl, rfl, ⟨_, SqL.of e5⟩, for_list (K := K) (a := sl) (xs := us.map V.int) (fun i σ H' => ∃ (v6 v7 : Option V) (v1 v2 v3 : V) (d1 d2 d3 : PyData), σ = [some (.ref a), some (.ref st), some (.ref sl), some (.ref u1), some (.ref u2), some (.ref l), v6, v7, none, none, none, none, none, none, none, none, none, none] ∧ (∀ b o, b ≠ st → b ≠ l → H5 b = some o → H' b = some o) ∧ TK H5 H' ∧ StOk H' st sc ∧
      H' l = some (.lst [v1, v2, v3]) ∧ BV K H' l st v1 d1 ∧ BV K H' l st v2 d2 ∧ BV K H' l st v3 d3)
    ⟨none, none, _, _, _, _, _, _, rfl, fun _ _ _ _ h => h, TK.refl _, o5, el, .flat (fun _ => .str _) (sm_lay 1 _ (sm_of_nm (modes_nm _ a1))).1 (Nat.le_trans (sm_lay 1 _ (sm_of_nm (modes_nm _ a1))).2 (by decide)), .flat (fun _ => .bl _) rfl (by simp [PyData.depth]), .flat (fun _ => .str _) (sm_lay 1 _ (sm_of_nm (inners_nm _ b1))).1 (Nat.le_trans (sm_lay 1 _ (sm_of_nm (inners_nm _ b1))).2 (by decide))⟩
    (fun i σ H' _ ⟨_, _, _, _, _, _, _, _, _, kp, _⟩ => SqL.of (kp _ _ nS nls e5)) ?_ ?_⟩
  · rintro i x σ H6 hx ⟨v6, v7, v1, v2, v3, d1, d2, d3, rfl, kp, tk, o6, e6, B1, B2, B3⟩
    rw [List.getElem?_map] at hx
    obtain ⟨u, hu2, rfl⟩ := Option.map_eq_some_iff.mp hx
    obtain ⟨u0, u6⟩ := hu u (List.mem_of_getElem? hu2)
    refine ⟨_, rfl, _, _, rfl, rfl, _, rfl, ?_⟩
    by_cases u3 : u < 3
    · refine if_true_of (decide_eq_true u3) ?_
      refine ⟨by show 1 ≤ sizeLine; decide, fun c hc => ?_⟩
      have z7 := Same.new hc (.lst [V.str "once"])
      have ec : upd H6 c (.lst [V.str "once"]) c = some (.lst [V.str "once"]) := upd_same
      have nc := (o6.ne hc).1
      have ncl : c ≠ l := (ne_of_none e6 hc).symm
      have o7 := o6.new (o := .lst [V.str "once"]) hc
      try dsimp only
      generalize upd H6 c (.lst [V.str "once"]) = H7 at z7 ec o7
      refine ⟨by show 13 ≤ sizeLine; decide, fun p hp => ?_⟩
      have z8 := Same.new hp (.lst [V.str "push", .str "pull", .str "level", .str "once", .str "later", .str "Push", .str "", .non, .int 0, .int 1, .bl true, .bl false, .ref c])
      have np := (o7.ne hp).1
      have o8 := o7.new (o := .lst [V.str "push", .str "pull", .str "level", .str "once", .str "later", .str "Push", .str "", .non, .int 0, .int 1, .bl true, .bl false, .ref c]) hp
      have e8 : upd H7 p (.lst [V.str "push", .str "pull", .str "level", .str "once", .str "later", .str "Push", .str "", .non, .int 0, .int 1, .bl true, .bl false, .ref c]) p = some (.lst [V.str "push", .str "pull", .str "level", .str "once", .str "later", .str "Push", .str "", .non, .int 0, .int 1, .bl true, .bl false, .ref c]) := upd_same
      try dsimp only
      generalize upd H7 p (.lst [V.str "push", .str "pull", .str "level", .str "once", .str "later", .str "Push", .str "", .non, .int 0, .int 1, .bl true, .bl false, .ref c]) = H8 at z8 o8 e8
      refine ⟨_, rfl, _, rfl, st, sc, 13, rfl, by decide, by decide, o8, fun r H9 g0 g1 k9 o9 _ => ?_⟩
      have z68 := z7.trans z8
      have e9l := k9 _ _ nl.1 (z68 _ _ e6)
      have hall : ∀ y ∈ [V.str "push", .str "pull", .str "level", .str "once", .str "later", .str "Push", .str "", .non, .int 0, .int 1, .bl true, .bl false, .ref c], ∃ dy, BV K H9 l st y dy := fun y hy => by
        simp only [List.mem_cons, List.not_mem_nil, or_false] at hy
        rcases hy with rfl | rfl | rfl | rfl | rfl | rfl | rfl | rfl | rfl | rfl | rfl | rfl | rfl
        · exact ⟨_, bv_str (vals_ok _ (by simp))⟩
        · exact ⟨_, bv_str (vals_ok _ (by simp))⟩
        · exact ⟨_, bv_str (vals_ok _ (by simp))⟩
        · exact ⟨_, bv_str (vals_ok _ (by simp))⟩
        · exact ⟨_, bv_str (vals_ok _ (by simp))⟩
        · exact ⟨_, bv_str (vals_ok _ (by simp))⟩
        · exact ⟨_, bv_str (vals_ok _ (by simp))⟩
        · exact ⟨.none, .flat (fun _ => .non) rfl (by simp [PyData.depth])⟩
        · exact ⟨.int 0, .flat (fun _ => .int _) rfl (by simp [PyData.depth])⟩
        · exact ⟨.int 1, .flat (fun _ => .int _) rfl (by simp [PyData.depth])⟩
        · exact ⟨.bool true, .flat (fun _ => .bl _) rfl (by simp [PyData.depth])⟩
        · exact ⟨.bool false, .flat (fun _ => .bl _) rfl (by simp [PyData.depth])⟩
        · exact ⟨_, .once ncl nc (k9 _ _ nc (z8 _ _ ec))⟩
      obtain ⟨j, rfl⟩ : ∃ j : Nat, r = (j : Nat) := ⟨r.toNat, by omega⟩
      have hj : j < [V.str "push", .str "pull", .str "level", .str "once", .str "later", .str "Push", .str "", .non, .int 0, .int 1, .bl true, .bl false, .ref c].length := by show j < 13; omega
      obtain ⟨dy, hy⟩ := hall _ (List.getElem_mem hj)
      refine ⟨p, _, _, _, rfl, rfl, SqL.of (k9 _ _ np e8), atI_nat (List.getElem?_eq_getElem hj), ?_⟩
      generalize [V.str "push", .str "pull", .str "level", .str "once", .str "later", .str "Push", .str "", .non, .int 0, .int 1, .bl true, .bl false, .ref c][j] = y at hy
      have kpS : ∀ {o : HO} b o', b ≠ st → b ≠ l → H6 b = some o' → upd H9 l o b = some o' := fun b o' n1 n2 h => by rw [upd_ne n2]; exact k9 _ _ n1 (z68 _ _ h)
      have kp9 : ∀ {o : HO} b o', b ≠ st → b ≠ l → H5 b = some o' → upd H9 l o b = some o' := fun b o' n1 n2 h => kpS b o' n1 n2 (kp b o' n1 n2 h)
      have tk9 : ∀ {xs : List V}, TK H5 (upd H9 l (.lst xs)) := fun {xs} => ((tk.trans (TK.of_same z68)).trans (TK.of_keep k9 o8.chg)).trans (TK.upd (by rw [e9l]; trivial))
      have hyK : ∀ {o : HO}, BV K (upd H9 l o) l st y dy := fun {o} => BV.keep (fun b o' n1 n2 h => by rw [upd_ne n2]; exact h) hy
      have o9' : ∀ {o : HO}, StOk (upd H9 l o) st sc := fun {o} => o9.other nl.1 nl.2
      obtain ⟨m, rfl⟩ : ∃ m : Nat, u = (m : Nat) := ⟨u.toNat, by omega⟩
      refine ⟨_, rfl, _, rfl, l, _, _, m, rfl, rfl, e9l, by unfold ixN; rw [if_pos (by omega), if_pos (by show (m : Int) < 3; omega), Int.toNat_natCast], ?_⟩
      match m, u3 with
      | 0, _ => exact ⟨_, _, y, v2, v3, _, _, _, rfl, kp9, tk9, o9', upd_same, hyK, B2.keep kpS, B3.keep kpS⟩
      | 1, _ => exact ⟨_, _, v1, y, v3, _, _, _, rfl, kp9, tk9, o9', upd_same, B1.keep kpS, hyK, B3.keep kpS⟩
      | 2, _ => exact ⟨_, _, v1, v2, y, _, _, _, rfl, kp9, tk9, o9', upd_same, B1.keep kpS, B2.keep kpS, hyK⟩
      | m + 3, h => omega
    · exact if_false_of (decide_eq_false u3) ⟨_, _, v1, v2, v3, _, _, _, rfl, kp, tk, o6, e6, B1, B2, B3⟩
  rintro σ H6 ⟨v6, v7, v1, v2, v3, d1, d2, d3, rfl, kp, tk, o6, e6, B1, B2, B3⟩
  have T1 := SqT.tk tk T1
  have T2 := SqT.tk tk T2
  have sH6 : Same H H6 := fun b o e => by
    have n1 : b ≠ st := fun z => by rw [z, f1] at e; cases e
    have e' := k4 _ _ n1 (k3 _ _ n1 (k2 _ _ n1 (s1 _ _ e)))
    exact kp _ _ n1 (fun z => by rw [z, hl] at e'; cases e') (z5 _ _ e')
  clear kp tk hu e5 el z5 o5 t1' t2 t1 e4 k4 k3 k2 o4 o3 o2 o1 s1 f1 f2 hl e2
  refine ⟨_, rfl, l, v1, v2, v3, d1, d2, d3, rfl, e6, B1.dp, B2.dp, B3.dp, fun H7 s7 => ?_⟩
  have e7 := s7 _ _ e6
  have D1 := Dp.same s7 B1.dp
  have D2 := Dp.same s7 B2.dp
  have D3 := Dp.same s7 B3.dp
  have T1 := SqT.same s7 T1
  have T2 := SqT.same s7 T2
  refine ⟨fun σ' H' => σ' = [some (.ref a), some (.ref st), some (.ref sl), some (.ref u1), some (.ref u2), some (.ref l), v6, v7, some (match ruleFault d1 d2 d3 with | none => V.non | some pt => .str pt), none, none, none, none, none, none, none, none, none] ∧ Same H7 H', ?_, ?_⟩
  · refine ⟨_, rfl, rfl, _, rfl, ?_⟩
    cases hf : ruleFault d1 d2 d3 with
    | some pt => exact if_false_of (decide_eq_false (fun x => nomatch x)) ⟨rfl, Same.refl _⟩
    | none =>
      refine if_true_of (decide_eq_true rfl) ?_
      refine ⟨_, rfl, l, v1, v2, v3, d1, d2, d3, rfl, e7, D1, D2, D3, B1.sh, B3.sh, fun _ u H8 s8 hu => ?_, fun pt e => absurd (hf.symm.trans e) (by simp)⟩
      have e8 := s8 _ _ e7
      refine ⟨_, rfl, l, _, 0, _, rfl, rfl, SqL.of e8, rfl, _, rfl, l, _, 1, _, rfl, rfl, SqL.of e8, rfl, _, rfl, l, _, 2, _, rfl, rfl, SqL.of e8, rfl, by show 4 ≤ sizeLine; decide, fun w hw => ?_⟩
      have s9 := Same.new hw (.tup [V.str "rule", v1, v2, v3])
      have s79 := s8.trans s9
      refine ne_same (d := .tuple [.str "rule", d1, d2, d3]) (.tup (SqT.same s9 hu) (.cons (.str _) (.cons (Dp.same s79 D1) (.cons (Dp.same s79 D2) (.cons (Dp.same s79 D3) .nil))))) (.tup (SqT.of upd_same) (.cons (.str _) (.cons (Dp.same s79 D1) (.cons (Dp.same s79 D2) (.cons (Dp.same s79 D3) .nil)))))
        (made_lay kw_rule.1 B1.lay B2.lay B3.lay).1 (made_lay kw_rule.1 B1.lay B2.lay B3.lay).2 ⟨_, rfl, if_false_of rfl ⟨rfl, s79⟩⟩
  rintro _ H8 ⟨rfl, s8⟩
  have e8 := s8 _ _ e7
  have D1 := Dp.same s8 D1
  have D2 := Dp.same s8 D2
  have D3 := Dp.same s8 D3
  have T1 := SqT.same s8 T1
  have T2 := SqT.same s8 T2
  refine ⟨fun σ' H' => (∃ v8 : Option V, σ' = [some (.ref a), some (.ref st), some (.ref sl), some (.ref u1), some (.ref u2), some (.ref l), v6, v7, v8, none, none, none, none, none, none, none, none, none]) ∧ Same H8 H', ?_, ?_⟩
  · refine ⟨_, rfl, rfl, _, rfl, ?_⟩
    cases hf : ruleFault d1 d2 d3 with
    | none => exact if_false_of (congrArg Bool.not (decide_eq_true rfl)) ⟨⟨_, rfl⟩, Same.refl _⟩
    | some pt =>
      refine if_true_of (congrArg Bool.not (decide_eq_false (fun x => nomatch x))) ?_
      refine ⟨_, rfl, l, v1, v2, v3, d1, d2, d3, rfl, e8, D1, D2, D3, B1.sh, B3.sh, fun e => absurd (hf.symm.trans e) (by simp), fun pt' e u H9 s9 hu => ?_⟩
      obtain rfl : pt = pt' := by have := hf.symm.trans e; simpa using this
      refine ⟨_, rfl, by show 4 ≤ sizeLine; decide, fun w hw => ?_⟩
      have s10 := Same.new hw (.tup [V.str "wrong", .str pt, .bl true, .bl false])
      have lay := made_lay (d1 := .str pt) (d2 := .bool true) (d3 := .bool false) kw_rule.2 (sm_lay 2 _ (fault_str hf)) ⟨rfl, by simp [PyData.depth]⟩ ⟨rfl, by simp [PyData.depth]⟩
      refine ne_same (d := .tuple [.str "wrong", .str pt, .bool true, .bool false]) (.tup (SqT.same s10 hu) (.cons (.str _) (.cons (.str _) (.cons (.bl _) (.cons (.bl _) .nil))))) (.tup (SqT.of upd_same) (.cons (.str _) (.cons (.str _) (.cons (.bl _) (.cons (.bl _) .nil))))) lay.1 lay.2 ⟨_, rfl, if_false_of rfl ⟨⟨_, rfl⟩, s9.trans s10⟩⟩
  rintro _ H9 ⟨⟨v8, rfl⟩, s9⟩
  have T1 := SqT.same s9 T1
  have T2 := SqT.same s9 T2
  have sH9 := sH6.trans (s7.trans (s8.trans s9))
  clear e8 e7 D1 D2 D3 s9 s8 s7 e6 B1 B2 B3 o6
  refine ⟨_, rfl, u1, _, 0, _, rfl, rfl, T1, rfl, _, rfl, u1, _, 1, _, rfl, rfl, T1, rfl, _, rfl, u1, _, 2, _, rfl, rfl, T1, rfl, fun x1 y1 hx1 hy1 hnex1 => ?_⟩
  refine ⟨x1, y1, _, _, _, .str q1.1, .bool q1.2.1, .str q1.2.2, rfl, upd_same, .str _, .bl _, .str _, nm_sh (modes_nm _ a1), nm_sh (inners_nm _ b1), good_rule a1 b1, rfl, ?_⟩
  rw [upd_upd]
  have z1 : Same H9 (upd (upd H9 y1 (.own x1)) x1 (.ins T.c_Rule y1 (ruleF (.str q1.1) (.bl q1.2.1) (.str q1.2.2)))) := (Same.new hy1 (.own x1)).trans (Same.new (by rw [upd_ne (Ne.symm hnex1)]; exact hx1) _)
  have E1 : upd (upd H9 y1 (.own x1)) x1 (.ins T.c_Rule y1 (ruleF (.str q1.1) (.bl q1.2.1) (.str q1.2.2))) x1 = some (.ins T.c_Rule y1 (ruleF (.str q1.1) (.bl q1.2.1) (.str q1.2.2))) := upd_same
  have T1 := SqT.same z1 T1
  have T2 := SqT.same z1 T2
  try dsimp only
  generalize upd (upd H9 y1 (.own x1)) x1 (.ins T.c_Rule y1 (ruleF (.str q1.1) (.bl q1.2.1) (.str q1.2.2))) = H10 at z1 E1 T1 T2
  refine ⟨_, rfl, u2, _, 0, _, rfl, rfl, T2, rfl, _, rfl, u2, _, 1, _, rfl, rfl, T2, rfl, _, rfl, u2, _, 2, _, rfl, rfl, T2, rfl, fun x2 y2 hx2 hy2 hnex2 => ?_⟩
  refine ⟨x2, y2, _, _, _, .str q2.1, .bool q2.2.1, .str q2.2.2, rfl, upd_same, .str _, .bl _, .str _, nm_sh (modes_nm _ a2), nm_sh (inners_nm _ b2), good_rule a2 b2, rfl, ?_⟩
  rw [upd_upd]
  have z2 : Same H10 (upd (upd H10 y2 (.own x2)) x2 (.ins T.c_Rule y2 (ruleF (.str q2.1) (.bl q2.2.1) (.str q2.2.2)))) := (Same.new hy2 (.own x2)).trans (Same.new (by rw [upd_ne (Ne.symm hnex2)]; exact hx2) _)
  have E2 : upd (upd H10 y2 (.own x2)) x2 (.ins T.c_Rule y2 (ruleF (.str q2.1) (.bl q2.2.1) (.str q2.2.2))) x2 = some (.ins T.c_Rule y2 (ruleF (.str q2.1) (.bl q2.2.1) (.str q2.2.2))) := upd_same
  have E1 := z2 _ _ E1
  have T1 := SqT.same z2 T1
  have T2 := SqT.same z2 T2
  try dsimp only
  generalize upd (upd H10 y2 (.own x2)) x2 (.ins T.c_Rule y2 (ruleF (.str q2.1) (.bl q2.2.1) (.str q2.2.2))) = H11 at z2 E1 E2 T1 T2
  have sH11 := sH9.trans (z1.trans z2)
  have L1 := qD_lay a1 b1
  have L2' := qD_lay a2 b2
  refine ⟨_, rfl, _, rfl, x1, x2, y1, y2, _, _, rfl, rfl, E1, E2, x1, x2, q1, q2, rfl, ⟨_, E1⟩, ⟨_, E2⟩, fun H12 s12 => ⟨_, rfl, _, rfl, _, rfl, qD q1, qD q2, .tup (SqT.same s12 T1) (.cons (.str _) (.cons (.bl _) (.cons (.str _) .nil))), .tup (SqT.same s12 T2) (.cons (.str _) (.cons (.bl _) (.cons (.str _) .nil))), shape_of L1.1 (Nat.le_trans L1.2 (by decide)), shape_of L2'.1 (Nat.le_trans L2'.2 (by decide)), rfl, _, rfl, ?_⟩⟩
  refine if_false_of (by rw [qD_eq]; exact congrArg Bool.not (decide_eq_true rfl)) ?_
  have E1 := s12 _ _ E1
  refine ⟨_, rfl, _, rfl, x1, x1, y1, y1, _, _, rfl, rfl, E1, E1, x1, x1, q1, q1, rfl, ⟨_, E1⟩, ⟨_, E1⟩, fun H13 s13 => ⟨_, rfl, _, rfl, if_false_of (by rw [decide_eq_true rfl]; rfl) ?_⟩⟩
  have sH13 := sH11.trans (s12.trans s13)
  clear T1 T2 z1 z2 E2 s12 L1 L2'
  have cl : combos.length = 12 := by decide +kernel
  have cmem : ∀ q ∈ combos, q.1 ∈ modesL ∧ q.2.2 ∈ innersL := by
    have : combos.all (fun q => decide (q.1 ∈ modesL) && decide (q.2.2 ∈ innersL)) = true := by decide +kernel
    intro q hq
    have := List.all_eq_true.mp this q hq
    rw [Bool.and_eq_true] at this
    exact ⟨of_decide_eq_true this.1, of_decide_eq_true this.2⟩
  have clay : (PyData.list (combos.map qD)).canLay0 = true ∧ (PyData.list (combos.map qD)).depth ≤ 60 := by
    obtain ⟨x, y⟩ := sm_all (k := 2) (combos.map qD) fun d hd => by
      obtain ⟨q, hq, rfl⟩ := List.mem_map.mp hd
      exact qD_lay (cmem q hq).1 (cmem q hq).2
    exact ⟨by simp only [PyData.canLay0, x], by simp only [PyData.depth]; omega⟩
  refine ⟨2, rfl, by decide, by decide, for_range (lo := 0) (n := (2 : Int).toNat) (fun i σ H' => ∃ (v11 v12 v13 v14 v15 v16 : Option V), σ = [some (.ref a), some (.ref st), some (.ref sl), some (.ref u1), some (.ref u2), some (.ref l), v6, v7, v8, some (.ref x1), some (.ref x2), v11, v12, v13, v14, v15, v16, none] ∧ Same H13 H')
    ⟨none, none, none, none, none, none, rfl, Same.refl _⟩ ?_ ?_⟩
  · rintro i σ H14 hi ⟨v11, v12, v13, v14, v15, v16, rfl, s14⟩
    refine ⟨rfl, fun D rs H15 s15 fD eD hR => ?_⟩
    obtain ⟨rl, hR⟩ := hR
    refine ⟨_, rfl, .ref D, .ty "list", .type "list", .type "list", true, rfl, .ty _, .base (.lst eD), kit_ty (by decide +kernel), true, rfl, if_false_of rfl ?_⟩
    refine ⟨_, rfl, .ref D, _, rfl, .inl ⟨_, SqL.of eD, rfl⟩, rfl, _, rfl, if_false_of (by rw [rl, cl]; decide +kernel) ?_⟩
    refine ⟨by show 0 ≤ sizeLine; decide, fun pl hpl => ?_⟩
    have s16 := Same.new hpl (.lst [])
    have e16 : upd H15 pl (.lst []) pl = some (.lst []) := upd_same
    generalize upd H15 pl (.lst []) = H16 at s16 e16
    have plF : H15 pl = none := hpl
    refine ⟨by show 3 ≤ sizeLine; decide, fun m1 hm1 => ⟨m1, rfl, ⟨_, SqL.of upd_same⟩, for_list (K := K) (a := m1) (xs := modesL.map V.str) (fun i2 σ H' => ∃ (v14 v15 v16 : Option V) (ps : List V), σ = [some (.ref a), some (.ref st), some (.ref sl), some (.ref u1), some (.ref u2), some (.ref l), v6, v7, v8, some (.ref x1), some (.ref x2), some (.int ((0 : Int) + (i : Nat))), some (.ref D), some (.ref pl), v14, v15, v16, none] ∧ Same H15 H' ∧ H' m1 = some (.lst (modesL.map V.str)) ∧ H' pl = some (.lst ps) ∧ ps.length ≤ 4 * i2 ∧
        TnAll K H' ps (((modesL.take i2).flatMap fun m => [false, true].flatMap fun c => innersL.map fun n => (m, c, n)).map qD))
      ⟨_, _, _, [], rfl, s16.trans (Same.new hm1 _), upd_same, Same.new hm1 _ _ _ e16, Nat.le_refl _, .nil⟩ (fun i σ H' _ ⟨_, _, _, _, _, _, h, _⟩ => SqL.of h) ?_ ?_⟩⟩
    · rintro i2 x σ H17 hx ⟨v14, v15, v16, ps, rfl, s17, e17, ep, pl2, hT⟩
      rw [List.getElem?_map] at hx
      obtain ⟨m, hm, rfl⟩ := Option.map_eq_some_iff.mp hx
      have i3 : i2 < 3 := (List.getElem?_eq_some_iff.mp hm).1
      have nmp : pl ≠ m1 := ne_of_none e16 hm1
      refine ⟨by show 2 ≤ sizeLine; decide, fun m2 hm2 => ⟨m2, rfl, ⟨_, SqL.of upd_same⟩, for_list (K := K) (a := m2) (xs := [false, true].map V.bl) (fun j σ H' => ∃ (v15 v16 : Option V) (ps : List V), σ = [some (.ref a), some (.ref st), some (.ref sl), some (.ref u1), some (.ref u2), some (.ref l), v6, v7, v8, some (.ref x1), some (.ref x2), some (.int ((0 : Int) + (i : Nat))), some (.ref D), some (.ref pl), some (.str m), v15, v16, none] ∧ Same H15 H' ∧ H' m1 = some (.lst (modesL.map V.str)) ∧ H' m2 = some (.lst ([false, true].map V.bl)) ∧ H' pl = some (.lst ps) ∧ ps.length ≤ 4 * i2 + 2 * j ∧
          TnAll K H' ps ((((modesL.take i2).flatMap fun m => [false, true].flatMap fun c => innersL.map fun n => (m, c, n)) ++ (([false, true] : List Bool).take j).flatMap fun c => innersL.map fun n => (m, c, n)).map qD))
        ⟨_, _, ps, rfl, s17.trans (Same.new hm2 _), Same.new hm2 _ _ _ e17, upd_same, Same.new hm2 _ _ _ ep, pl2, by simpa using TnAll.keep (TK.of_same (Same.new hm2 _)) hT⟩ (fun i σ H' _ ⟨_, _, _, _, _, _, h, _⟩ => SqL.of h) ?_ ?_⟩⟩
      · rintro j x σ H18 hx ⟨v15, v16, ps, rfl, s18, e18, e18b, ep, pl2, hT⟩
        rw [List.getElem?_map] at hx
        obtain ⟨c, hc, rfl⟩ := Option.map_eq_some_iff.mp hx
        have j2 : j < 2 := (List.getElem?_eq_some_iff.mp hc).1
        have n2p : pl ≠ m2 := ne_of_none ‹H17 pl = some _› hm2
        refine ⟨by show 2 ≤ sizeLine; decide, fun m3 hm3 => ⟨m3, rfl, ⟨_, SqL.of upd_same⟩, for_list (K := K) (a := m3) (xs := innersL.map V.str) (fun k σ H' => ∃ (v16 : Option V) (ps : List V), σ = [some (.ref a), some (.ref st), some (.ref sl), some (.ref u1), some (.ref u2), some (.ref l), v6, v7, v8, some (.ref x1), some (.ref x2), some (.int ((0 : Int) + (i : Nat))), some (.ref D), some (.ref pl), some (.str m), some (.bl c), v16, none] ∧ Same H15 H' ∧ H' m1 = some (.lst (modesL.map V.str)) ∧ H' m2 = some (.lst ([false, true].map V.bl)) ∧ H' m3 = some (.lst (innersL.map V.str)) ∧ H' pl = some (.lst ps) ∧ ps.length ≤ 4 * i2 + 2 * j + k ∧
            TnAll K H' ps ((((modesL.take i2).flatMap fun m => [false, true].flatMap fun c => innersL.map fun n => (m, c, n)) ++ (([false, true] : List Bool).take j).flatMap (fun c => innersL.map fun n => (m, c, n)) ++ (innersL.take k).map fun n => (m, c, n)).map qD))
          ⟨_, ps, rfl, s18.trans (Same.new hm3 _), Same.new hm3 _ _ _ e18, Same.new hm3 _ _ _ e18b, upd_same, Same.new hm3 _ _ _ ep, by omega, by simpa using TnAll.keep (TK.of_same (Same.new hm3 _)) hT⟩ (fun i σ H' _ ⟨_, _, _, _, _, _, h, _⟩ => SqL.of h) ?_ ?_⟩⟩
        · rintro k x σ H19 hx ⟨v16, ps, rfl, s19, e19, e19b, e19c, ep19, pl3, hT⟩
          rw [List.getElem?_map] at hx
          obtain ⟨n, hn, rfl⟩ := Option.map_eq_some_iff.mp hx
          have k2 : k < 2 := (List.getElem?_eq_some_iff.mp hn).1
          have n3p : pl ≠ m3 := ne_of_none ‹H18 pl = some _› hm3
          refine ⟨_, rfl, .inl ⟨rfl, _, SqL.of ep19⟩, _, rfl, _, rfl, _, rfl, by show 3 ≤ sizeLine; decide, fun t ht => ?_⟩
          have s20 := Same.new ht (.tup [V.str m, .bl c, .str n])
          have ep20 := s20 _ _ ep19
          refine ⟨pl, ps, _, rfl, rfl, ep20, small1000 (by omega), ?_⟩
          have tk : TK (upd H19 t (.tup [V.str m, .bl c, .str n])) (upd (upd H19 t (.tup [V.str m, .bl c, .str n])) pl (.lst (ps ++ [.ref t]))) := TK.upd (by rw [ep20]; trivial)
          refine ⟨_, _, rfl, K09.Same.own (s19.trans s20) plF, by rw [upd_ne nmp.symm]; exact s20 _ _ e19, by rw [upd_ne n2p.symm]; exact s20 _ _ e19b, by rw [upd_ne n3p.symm]; exact s20 _ _ e19c, upd_same, by rw [List.length_append]; show ps.length + 1 ≤ _; omega, ?_⟩
          rw [take_snoc hn, List.map_append (f := fun n => (m, c, n)), ← List.append_assoc, List.map_append (f := qD)]
          exact TnAll.append (TnAll.keep ((TK.of_same s20).trans tk) hT) (TnAll.one (Tn.keep tk (Tn.new (.cons (.str _) (.cons (.bl _) (.cons (.str _) .nil))) ht)))
        · rintro σ H19 ⟨v16, ps, rfl, s19, e19, e19b, e19c, ep19, pl3, hT⟩
          have il : (innersL.map V.str).length = 2 := rfl
          rw [il] at pl3 hT
          refine ⟨_, _, ps, rfl, s19, e19, e19b, ep19, by omega, ?_⟩
          rw [take_snoc hc, List.flatMap_append, List.flatMap_singleton, ← List.append_assoc]
          exact hT
      · rintro σ H18 ⟨v15, v16, ps, rfl, s18, e18, e18b, ep, pl2, hT⟩
        have bl : (([false, true] : List Bool).map V.bl).length = 2 := rfl
        rw [bl] at pl2 hT
        refine ⟨_, _, _, ps, rfl, s18, e18, ep, by omega, ?_⟩
        rw [take_snoc hm, List.flatMap_append, List.flatMap_singleton]
        exact hT
    rintro σ H17 ⟨v14, v15, v16, ps, rfl, s17, e17, ep, pl2, hT⟩
    have ml : (modesL.map V.str).length = 3 := rfl
    rw [ml] at hT
    have hT : TnAll K H17 ps (combos.map qD) := hT
    have eD17 := s17 _ _ eD
    have hR17 : ∀ (i : Nat) (q : Str × Bool × Str), combos[i]? = some q → ∃ a, rs[i]? = some (.ref a) ∧ RuleAt H17 T.c_Rule a q := fun i q hq => by
      obtain ⟨x, h1, dx, h2⟩ := hR i q hq
      exact ⟨x, h1, dx, s17 _ _ h2⟩
    refine ⟨_, rfl, D, rfl, ⟨_, SqL.of eD17⟩, fun G hG => lc_list (K := K) (a := D) (xs := rs) (fun i H' => ∃ us : List V, Same H17 H' ∧ H' G = some (.lst us) ∧ us.length = i ∧ TnAll K H' us ((combos.take i).map qD))
      ⟨[], Same.new hG _, upd_same, rfl, .nil⟩ (fun i H' _ ⟨_, s', _⟩ => SqL.of (s' _ _ eD17)) ?_ ?_⟩
    · rintro i x H18 hx ⟨us, s18, eu, ul, hu⟩
      have il : i < combos.length := by rw [← rl]; exact (List.getElem?_eq_some_iff.mp hx).1
      obtain ⟨b, hb1, dx, hb2⟩ := hR17 i _ (List.getElem?_eq_getElem il)
      obtain rfl := Option.some.inj (hx.symm.trans hb1)
      have eb := s18 _ _ hb2
      refine ⟨rfl, tYes_of ?_⟩
      refine ⟨_, rfl, b, _, dx, _, _, rfl, eb, T.l_Rule, T.n_Rule_mode, ruleF_mode .., _, rfl, b, _, dx, _, _, rfl, eb, T.l_Rule, T.n_Rule_cut, ruleF_cut .., _, rfl, b, _, dx, _, _, rfl, eb, T.l_Rule, T.n_Rule_inner, ruleF_inner .., by show 3 ≤ sizeLine; decide, fun t ht => ?_⟩
      have s19 := Same.new ht (.tup [V.str combos[i].1, .bl combos[i].2.1, .str combos[i].2.2])
      have eu19 := s19 _ _ eu
      refine ⟨us, eu19, small1000 (by omega), us ++ [.ref t], K09.Same.own (s18.trans s19) hG, upd_same, by rw [List.length_append, ul]; rfl, ?_⟩
      rw [take_snoc (List.getElem?_eq_getElem il), List.map_append]
      have tk : TK (upd H18 t (.tup [V.str combos[i].1, .bl combos[i].2.1, .str combos[i].2.2])) (upd (upd H18 t (.tup [V.str combos[i].1, .bl combos[i].2.1, .str combos[i].2.2])) G (.lst (us ++ [.ref t]))) := TK.upd (by rw [eu19]; trivial)
      exact TnAll.append (TnAll.keep ((TK.of_same s19).trans tk) hu) (TnAll.one (Tn.keep tk (Tn.new (.cons (.str _) (.cons (.bl _) (.cons (.str _) .nil))) ht)))
    rintro H18 ⟨us, s18, eu, ul, hu⟩
    rw [rl, List.take_length] at hu
    have ep18 := s18 _ _ ep
    have eD18 := s18 _ _ eD17
    refine ⟨_, rfl, .list (combos.map qD), .list (combos.map qD), .lst (SqL.of eu) (TnAll.dp hu), .lst (SqL.of ep18) (TnAll.dp (TnAll.keep (TK.of_same s18) hT)), shape_of clay.1 clay.2, shape_of clay.1 clay.2, _, rfl, if_false_of (by rw [SeqAt.eqv_refl _ clay.1]; rfl) ?_⟩
    refine ⟨_, rfl, .inl ⟨rfl, _, SqL.of eD18⟩, _, rfl, D, rs, _, rfl, rfl, eD18, small1000 (by rw [rl, cl]; decide), ?_⟩
    have fD13 : H13 D = none := by
      cases z : H13 D with
      | none => rfl
      | some o => rw [s14 _ _ z] at fD; cases fD
    exact ⟨_, _, _, _, _, _, rfl, K09.Same.own (s14.trans (s15.trans (s17.trans s18))) fD13⟩
  rintro σ H14 ⟨v11, v12, v13, v14, v15, v16, rfl, s14⟩
  exact q _ (sH13.trans s14)
theorem ok_law (T : Tops w K mg) (G__law_first_part : FnOk P w K mg base CX0 12 T.a__law_first_part T.d__law_first_part ["_law_script"] (spPart K))
    (G__law_second_part : FnOk P w K mg base CX0 12 T.a__law_second_part T.d__law_second_part ["_law_script"] (spPart K)) :
    FnOk P w K mg base CX0 13 T.a_law T.d_law ["_law_script"] (spPart K) := by
  refine T.F_law.ok sc_law (fun vs H Q E h => ?_) (fun cdv A outer s H vs Q E hr h => ?_)
  · obtain ⟨a, ns, rfl, _⟩ := h; rfl
  obtain ⟨a, ns, rfl, hN, hlen, q⟩ := h
  refine ⟨_, (pss_one (ps_ret (pe_and (pe_call G__law_first_part (hr.mono (by omega)) rfl T.m__law_first_part T.F__law_first_part.kp T.b__law_first_part .nil pass0 (pa_cons (pv 0) pa_nil)) (pe_one (pe_call G__law_second_part (hr.mono (by omega)) rfl T.m__law_second_part T.F__law_second_part.kp T.b__law_second_part .nil pass0 (pa_cons (pv 0) pa_nil)))))), ?_⟩
  exact ⟨_, rfl, a, ns, rfl, hN, hlen, fun H1 s1 => ⟨true, rfl, if_true_of rfl ⟨_, rfl, a, ns, rfl, SqL.same s1 hN, hlen, fun H2 s2 => q H2 (s1.trans s2)⟩⟩⟩
end
end K09
namespace K09
open PySem PySem.Spec PyProof.Rows L2 Td
theorem RuleAt.same {H H' : Hp} {CR a : Addr} {q : Str × Bool × Str} (s : Same H H') (h : RuleAt H CR a q) : RuleAt H' CR a q := by
  obtain ⟨dx, h⟩ := h
  exact ⟨dx, s _ _ h⟩
theorem RulesAt.same {H H' : Hp} {CR : Addr} {rs : List V} {qs : List (Str × Bool × Str)} (s : Same H H') (h : RulesAt H CR rs qs) : RulesAt H' CR rs qs :=
  ⟨h.1, fun i q hq => by obtain ⟨a, h1, h2⟩ := h.2 i q hq; exact ⟨a, h1, h2.same s⟩⟩
theorem RulesAt.put {H : Hp} {CR D : Addr} {rs xs ys : List V} {qs : List (Str × Bool × Str)} (eD : H D = some (.lst xs)) (h : RulesAt H CR rs qs) : RulesAt (upd H D (.lst ys)) CR rs qs :=
  ⟨h.1, fun i q hq => by
    obtain ⟨a, h1, dx, h2⟩ := h.2 i q hq
    exact ⟨a, h1, dx, by rw [upd_ne (fun z => by rw [z, eD] at h2; cases h2)]; exact h2⟩⟩
theorem RulesAt.snoc {H : Hp} {CR a : Addr} {rs : List V} {qs : List (Str × Bool × Str)} {q : Str × Bool × Str} (h : RulesAt H CR rs qs) (ha : RuleAt H CR a q) : RulesAt H CR (rs ++ [.ref a]) (qs ++ [q]) := by
  obtain ⟨l, h⟩ := h
  refine ⟨by rw [List.length_append, List.length_append, l]; rfl, fun i r hr => ?_⟩
  by_cases lt : i < qs.length
  · rw [List.getElem?_append_left lt] at hr
    obtain ⟨b, h1, h2⟩ := h i r hr
    exact ⟨b, by rw [List.getElem?_append_left (by omega)]; exact h1, h2⟩
  · have e : i = qs.length := by
      have := (List.getElem?_eq_some_iff.mp hr).1
      rw [List.length_append] at this
      have : i < qs.length + 1 := this
      omega
    subst e
    rw [List.getElem?_concat_length] at hr
    cases hr
    exact ⟨a, by rw [← l, List.getElem?_concat_length], ha⟩
theorem RulesAt.nil {H : Hp} {CR : Addr} : RulesAt H CR [] [] := ⟨rfl, fun i q h => by simp at h⟩
section
variable {P : Program} {w : World} {K : PySem.W.Frag} {mg : Str → Option Value} {base : Heap}
theorem ok_all_rules (T : Tops w K mg) (G_Rule_init : FnOk P w K mg base CX0 3 T.a_Rule_init T.d_Rule_init ["self", "mode", "cut", "inner"] (spRuleOk K T.c_Rule)) :
    FnOk P w K mg base CX0 5 T.a_all_rules T.d_all_rules [] (spAllRules T.c_Rule) := by
  refine T.F_all_rules.ok sc_all_rules (fun vs H Q E h => ?_) (fun cdv A outer s H vs Q E hr h => ?_)
  · rw [h.1]
    rfl
  obtain ⟨rfl, q⟩ := h
  refine ⟨_, (pss_one (ps_ret (pe_lc3 (own := [("mode", 0), ("cut", 1), ("inner", 2)]) (vs1 := [1, 2]) (vs2 := [2]) (g := gName 0) (g1 := gName 1) (g2 := gName 2) (wi1 := iTup K (tTup (tCons (tC (.bl false)) (tCons (tC (.bl true)) tNil)))) (wi2 := iTup K (tC (.ref T.a_INNERS))) (te := tMake T.c_Rule (spRuleOk K T.c_Rule) [] E0 (tCons (tVar 0) (tCons (tVar 1) (tCons (tVar 2) tNil)))) rfl sc_all_rules.nd (pi_tup (pe_glob (v := .ref T.a_MODES) rfl T.c_MODES rfl)) (blkOk_by (own := [("mode", 0), ("cut", 1), ("inner", 2)]) (N := N_all_rules) (sc := defScope s_all_rules) (by decide +kernel)) (by decide) (by decide) (fun _ _ _ _ _ => (pg_name (i := 0) sc_all_rules.nd rfl (Or.inl rfl))) (fun _ _ _ _ _ => (pi_tup (pe_tup (pa_cons pe_bl (pa_cons pe_bl pa_nil))))) (fun _ _ _ _ _ => (pg_name (i := 1) sc_all_rules.nd rfl (Or.inl rfl))) (fun _ _ _ _ _ => (pi_tup (pe_glob (v := .ref T.a_INNERS) rfl T.c_INNERS rfl))) (fun _ _ _ _ _ => (pg_name (i := 2) sc_all_rules.nd rfl (Or.inl rfl))) (fun _ _ _ _ _ => (pe_make T.k_Rule G_Rule_init (hr.mono (by omega)) rfl T.m_Rule T.b_Rule_init .nil pass0 (pa_cons (pv 0) (pa_cons (pv 1) (pa_cons (pv 2) pa_nil)))))))), ?_⟩
  refine ⟨T.a_MODES, rfl, ⟨_, T.w_MODES _⟩, fun D hD => walk_tup (K := K) (a := T.a_MODES) (us := modesL.map V.str) (fun i H' => ∃ rs : List V, Same H H' ∧ H' D = some (.lst rs) ∧ rs.length ≤ 4 * i ∧ RulesAt H' T.c_Rule rs ((modesL.take i).flatMap fun m => [false, true].flatMap fun c => innersL.map fun n => (m, c, n)))
    ⟨[], Same.new hD _, upd_same, Nat.le_refl _, RulesAt.nil⟩ (fun i H' _ _ => T.w_MODES _) ?_ ?_⟩
  · rintro i x H1 hx ⟨rs, s1, e1, l1, hR⟩
    rw [List.getElem?_map] at hx
    obtain ⟨m, hm, rfl⟩ := Option.map_eq_some_iff.mp hx
    have i3 : i < 3 := (List.getElem?_eq_some_iff.mp hm).1
    refine ⟨rfl, by show 2 ≤ sizeLine; decide, fun t ht => ⟨t, rfl, ⟨_, SqT.of upd_same⟩, ?_⟩⟩
    have s2 := Same.new ht (.tup [V.bl false, .bl true])
    refine walk_tup (K := K) (a := t) (us := [false, true].map V.bl) (fun j H' => ∃ rs : List V, Same H H' ∧ SqT K H' t ([false, true].map V.bl) ∧ H' D = some (.lst rs) ∧ rs.length ≤ 4 * i + 2 * j ∧
        RulesAt H' T.c_Rule rs (((modesL.take i).flatMap fun m => [false, true].flatMap fun c => innersL.map fun n => (m, c, n)) ++ (([false, true] : List Bool).take j).flatMap fun c => innersL.map fun n => (m, c, n)))
      ⟨rs, s1.trans s2, SqT.of upd_same, s2 _ _ e1, l1, by simpa using hR.same s2⟩ (fun j H' _ ⟨_, _, h, _⟩ => h) ?_ ?_
    · rintro j x H2 hx ⟨rs, z2, hS, e2, l2, hR⟩
      rw [List.getElem?_map] at hx
      obtain ⟨c, hc, rfl⟩ := Option.map_eq_some_iff.mp hx
      have j2 : j < 2 := (List.getElem?_eq_some_iff.mp hc).1
      refine ⟨rfl, T.a_INNERS, rfl, ⟨_, T.w_INNERS _⟩, walk_tup (K := K) (a := T.a_INNERS) (us := innersL.map V.str) (fun k H' => ∃ rs : List V, Same H H' ∧ SqT K H' t ([false, true].map V.bl) ∧ H' D = some (.lst rs) ∧ rs.length ≤ 4 * i + 2 * j + k ∧
          RulesAt H' T.c_Rule rs (((modesL.take i).flatMap fun m => [false, true].flatMap fun c => innersL.map fun n => (m, c, n)) ++ (([false, true] : List Bool).take j).flatMap (fun c => innersL.map fun n => (m, c, n)) ++ (innersL.take k).map fun n => (m, c, n)))
        ⟨rs, z2, hS, e2, by omega, by simpa using hR⟩ (fun k H' _ _ => T.w_INNERS _) ?_ ?_⟩
      · rintro k x H3 hx ⟨rs, z3, hS, e3, l3, hR⟩
        rw [List.getElem?_map] at hx
        obtain ⟨n, hn, rfl⟩ := Option.map_eq_some_iff.mp hx
        have k2 : k < 2 := (List.getElem?_eq_some_iff.mp hn).1
        have mm := List.mem_of_getElem? hm
        have mn := List.mem_of_getElem? hn
        refine ⟨rfl, _, rfl, _, rfl, _, rfl, fun x dx hx hdx hne => ?_⟩
        refine ⟨x, dx, _, _, _, .str m, .bool c, .str n, rfl, upd_same, .str _, .bl _, .str _, nm_sh (modes_nm _ mm), nm_sh (inners_nm _ mn), good_rule (q := (m, c, n)) mm mn, rfl, ?_⟩
        rw [upd_upd]
        have s4 : Same H3 (upd (upd H3 dx (.own x)) x (.ins T.c_Rule dx (ruleF (.str m) (.bl c) (.str n)))) := (Same.new hdx (.own x)).trans (Same.new (by rw [upd_ne (Ne.symm hne)]; exact hx) _)
        have hA : RuleAt (upd (upd H3 dx (.own x)) x (.ins T.c_Rule dx (ruleF (.str m) (.bl c) (.str n)))) T.c_Rule x (m, c, n) := ⟨dx, upd_same⟩
        generalize upd (upd H3 dx (.own x)) x (.ins T.c_Rule dx (ruleF (.str m) (.bl c) (.str n))) = H4 at s4 hA
        have e4 := s4 _ _ e3
        refine ⟨rs, e4, small1000 (by omega), rs ++ [.ref x], K09.Same.own (z3.trans s4) hD, SqT.tk (TK.upd (by rw [e4]; trivial)) (SqT.same s4 hS), upd_same, by rw [List.length_append]; show rs.length + 1 ≤ _; omega, ?_⟩
        rw [take_snoc hn, List.map_append (f := fun n => (m, c, n)), ← List.append_assoc]
        exact RulesAt.put e4 ((hR.same s4).snoc hA)
      · rintro H3 ⟨rs, z3, hS, e3, l3, hR⟩
        have il : (innersL.map V.str).length = 2 := rfl
        rw [il] at l3 hR
        refine ⟨rs, z3, hS, e3, by omega, ?_⟩
        rw [take_snoc hc, List.flatMap_append, List.flatMap_singleton, ← List.append_assoc]
        exact hR
    · rintro H2 ⟨rs, z2, hS, e2, l2, hR⟩
      have bl : (([false, true] : List Bool).map V.bl).length = 2 := rfl
      rw [bl] at l2 hR
      refine ⟨rs, z2, e2, by omega, ?_⟩
      rw [take_snoc hm, List.flatMap_append, List.flatMap_singleton]
      exact hR
  · rintro H1 ⟨rs, s1, e1, l1, hR⟩
    exact q D rs H1 s1 hD e1 hR
end
end K09
namespace K09
open PySem PySem.Spec PyProof.Rows L2 Td
def spLaw (K : PySem.W.Frag) : Sp := fun vs H Q _ => ∃ (a : Addr) (ns : List Int), vs = [.ref a] ∧ SqL K H a (ns.map V.int) ∧ ns.length ≤ 63 ∧ ∀ H', Q (.bl true) H'
theorem law_of {w : World} {K : PySem.W.Frag} {mg : Str → Option Value} {base : Heap} (T : Tops w K mg) : FnOk PySem.Challenge.pw_toldonward_k09_deeds w K mg base CX0 13 T.a_law T.d_law ["_law_script"] (spLaw K) := by
  have draw := ok_draw (P := PySem.Challenge.pw_toldonward_k09_deeds) (base := base) T
  have nms := ok_names (P := PySem.Challenge.pw_toldonward_k09_deeds) (base := base) T draw
  have row := ok_row (P := PySem.Challenge.pw_toldonward_k09_deeds) (base := base) T draw
  have rows := ok_rows T draw row (ok_many T 5) 5
  have parts := ok_parts T draw nms rows
  have sta := ok_state (P := PySem.Challenge.pw_toldonward_k09_deeds) (base := base) T
  have isn := ok_is_name (P := PySem.Challenge.pw_toldonward_k09_deeds) (base := base) T
  have arn := ok_are_names T isn
  have nps := ok_named_pairs T isn
  have nof := ok_names_of (P := PySem.Challenge.pw_toldonward_k09_deeds) (base := base) T
  have fits := fit_held T (ok_read T isn) (ok_put T isn) (ok_slot T isn) (ok_write T isn) (ok_if T isn)
  have fst := ok_first T (ok_valid T fits (ok_check_of T)) 4
  have bod := ok_check_body T fst (ok_paths T 4)
  have bds := ok_check_bodies T bod (ok_scope T)
  have prg := ok_program T (ok_check_parts T arn nps nof) bds nof
  have isw := ok_is_write (P := PySem.Challenge.pw_toldonward_k09_deeds) (base := base) T
  have isd := ok_is_deed T isw (ok_is_batch T isw) (ok_cells T)
  have dee := ok_deeds T (ok_pairs (P := PySem.Challenge.pw_toldonward_k09_deeds) (base := base) T) (ok_dnames T)
  have good := ok_law_good T (ok_law_pair (P := PySem.Challenge.pw_toldonward_k09_deeds) (base := base) T)
  have f1 := ok_first_part T sta draw parts prg dee (ok_law_listed T) isd (ok_law_deed T draw) (ok_law_bad T draw) good
  have iR := ok_InvalidRule (P := PySem.Challenge.pw_toldonward_k09_deeds) (base := base) T
  have riX := ok_rule_init T iR
  have ri : FnOk PySem.Challenge.pw_toldonward_k09_deeds w K mg base CX0 3 T.a_Rule_init T.d_Rule_init ["self", "mode", "cut", "inner"] (spRuleOk K T.c_Rule) := calm_out riX fun _ _ _ _ ⟨x, dx, v1, v2, v3, d1, d2, d3, e, hx, a, b, c, m1, m3, f, q⟩ => ⟨x, dx, v1, v2, v3, d1, d2, d3, e, hx, a, b, c, m1, m3, fun _ => q, fun pt z => absurd (f.symm.trans z) (by simp)⟩
  have req := ok_rule_eq (P := PySem.Challenge.pw_toldonward_k09_deeds) (base := base) T
  have L := ok_law T f1 (ok_second_part T sta draw (ok_law_rule T draw) (ok_law_made T riX) (ok_law_fault T) ri req (ok_all_rules T ri))
  exact ⟨fun vs H Q E ⟨a, ns, e, h1, h2, q⟩ => L.len vs H Q E ⟨a, ns, e, h1, h2, fun H' _ => q H'⟩, fun A outer s H args us vs Q E hr he hb hv ⟨a, ns, e, h1, h2, q⟩ => L.run A outer s H args us vs Q E hr he hb hv ⟨a, ns, e, h1, h2, fun H' _ => q H'⟩⟩
abbrev D_InvalidProgram_init : He.DefD := ⟨("InvalidProgram", some "__init__"), "__init__", "InvalidProgram.__init__", defArgs s_InvalidProgram_init, defBody s_InvalidProgram_init, defScope s_InvalidProgram_init, [], []⟩
abbrev D_InvalidRule_init : He.DefD := ⟨("InvalidRule", some "__init__"), "__init__", "InvalidRule.__init__", defArgs s_InvalidRule_init, defBody s_InvalidRule_init, defScope s_InvalidRule_init, [], []⟩
abbrev D_InvalidStart_init : He.DefD := ⟨("InvalidStart", some "__init__"), "__init__", "InvalidStart.__init__", defArgs s_InvalidStart_init, defBody s_InvalidStart_init, defScope s_InvalidStart_init, [], []⟩
abbrev D_UnknownCell_init : He.DefD := ⟨("UnknownCell", some "__init__"), "__init__", "UnknownCell.__init__", defArgs s_UnknownCell_init, defBody s_UnknownCell_init, defScope s_UnknownCell_init, [], []⟩
abbrev D_is_deed : He.DefD := ⟨("is_deed", none), "is_deed", "is_deed", defArgs s_is_deed, defBody s_is_deed, defScope s_is_deed, [], []⟩
abbrev D_is_write : He.DefD := ⟨("is_write", none), "is_write", "is_write", defArgs s_is_write, defBody s_is_write, defScope s_is_write, [], []⟩
abbrev D_is_batch : He.DefD := ⟨("is_batch", none), "is_batch", "is_batch", defArgs s_is_batch, defBody s_is_batch, defScope s_is_batch, [], []⟩
abbrev D_deeds : He.DefD := ⟨("deeds", none), "deeds", "deeds", defArgs s_deeds, defBody s_deeds, defScope s_deeds, [], [("batches", .bl true)]⟩
abbrev D_pairs_of_writes : He.DefD := ⟨("pairs_of_writes", none), "pairs_of_writes", "pairs_of_writes", defArgs s_pairs_of_writes, defBody s_pairs_of_writes, defScope s_pairs_of_writes, [], []⟩
abbrev D_is_name : He.DefD := ⟨("is_name", none), "is_name", "is_name", defArgs s_is_name, defBody s_is_name, defScope s_is_name, [], []⟩
abbrev D_are_names : He.DefD := ⟨("are_names", none), "are_names", "are_names", defArgs s_are_names, defBody s_are_names, defScope s_are_names, [], []⟩
abbrev D_are_named_pairs : He.DefD := ⟨("are_named_pairs", none), "are_named_pairs", "are_named_pairs", defArgs s_are_named_pairs, defBody s_are_named_pairs, defScope s_are_named_pairs, [], []⟩
abbrev D_Scope_init : He.DefD := ⟨("Scope", some "__init__"), "__init__", "Scope.__init__", defArgs s_Scope_init, defBody s_Scope_init, defScope s_Scope_init, [], []⟩
abbrev D_is_read_row : He.DefD := ⟨("is_read_row", none), "is_read_row", "is_read_row", defArgs s_is_read_row, defBody s_is_read_row, defScope s_is_read_row, [], []⟩
abbrev D_is_put_row : He.DefD := ⟨("is_put_row", none), "is_put_row", "is_put_row", defArgs s_is_put_row, defBody s_is_put_row, defScope s_is_put_row, [], []⟩
abbrev D_is_if_row : He.DefD := ⟨("is_if_row", none), "is_if_row", "is_if_row", defArgs s_is_if_row, defBody s_is_if_row, defScope s_is_if_row, [], []⟩
abbrev D_is_slot_row : He.DefD := ⟨("is_slot_row", none), "is_slot_row", "is_slot_row", defArgs s_is_slot_row, defBody s_is_slot_row, defScope s_is_slot_row, [], []⟩
abbrev D_is_write_row : He.DefD := ⟨("is_write_row", none), "is_write_row", "is_write_row", defArgs s_is_write_row, defBody s_is_write_row, defScope s_is_write_row, [], []⟩
abbrev D_check_of : He.DefD := ⟨("check_of", none), "check_of", "check_of", defArgs s_check_of, defBody s_check_of, defScope s_check_of, [], []⟩
abbrev D_is_valid_row : He.DefD := ⟨("is_valid_row", none), "is_valid_row", "is_valid_row", defArgs s_is_valid_row, defBody s_is_valid_row, defScope s_is_valid_row, [], []⟩
abbrev D_first_wrong_path : He.DefD := ⟨("first_wrong_path", none), "first_wrong_path", "first_wrong_path", defArgs s_first_wrong_path, defBody s_first_wrong_path, defScope s_first_wrong_path, [], []⟩
abbrev D_paths_of_rows : He.DefD := ⟨("paths_of_rows", none), "paths_of_rows", "paths_of_rows", defArgs s_paths_of_rows, defBody s_paths_of_rows, defScope s_paths_of_rows, [], []⟩
abbrev D_Program_init : He.DefD := ⟨("Program", some "__init__"), "__init__", "Program.__init__", defArgs s_Program_init, defBody s_Program_init, defScope s_Program_init, [], []⟩
abbrev D_Program_eq : He.DefD := ⟨("Program", some "__eq__"), "__eq__", "Program.__eq__", defArgs s_Program_eq, defBody s_Program_eq, defScope s_Program_eq, [], []⟩
abbrev D_Program_cells : He.DefD := ⟨("Program", some "cells"), "cells", "Program.cells", defArgs s_Program_cells, defBody s_Program_cells, defScope s_Program_cells, [], []⟩
abbrev D_Program_derived_names : He.DefD := ⟨("Program", some "derived_names"), "derived_names", "Program.derived_names", defArgs s_Program_derived_names, defBody s_Program_derived_names, defScope s_Program_derived_names, [], []⟩
abbrev D_Program_effect_names : He.DefD := ⟨("Program", some "effect_names"), "effect_names", "Program.effect_names", defArgs s_Program_effect_names, defBody s_Program_effect_names, defScope s_Program_effect_names, [], []⟩
abbrev D_Program_body : He.DefD := ⟨("Program", some "body"), "body", "Program.body", defArgs s_Program_body, defBody s_Program_body, defScope s_Program_body, [], []⟩
abbrev D_Program_row_paths : He.DefD := ⟨("Program", some "row_paths"), "row_paths", "Program.row_paths", defArgs s_Program_row_paths, defBody s_Program_row_paths, defScope s_Program_row_paths, [], []⟩
abbrev D_Program_row_at : He.DefD := ⟨("Program", some "row_at"), "row_at", "Program.row_at", defArgs s_Program_row_at, defBody s_Program_row_at, defScope s_Program_row_at, [], []⟩
abbrev D_Program_with_row : He.DefD := ⟨("Program", some "with_row"), "with_row", "Program.with_row", defArgs s_Program_with_row, defBody s_Program_with_row, defScope s_Program_with_row, [], []⟩
abbrev D_names_of : He.DefD := ⟨("names_of", none), "names_of", "names_of", defArgs s_names_of, defBody s_names_of, defScope s_names_of, [], []⟩
abbrev D_check_parts : He.DefD := ⟨("check_parts", none), "check_parts", "check_parts", defArgs s_check_parts, defBody s_check_parts, defScope s_check_parts, [], []⟩
abbrev D_check_bodies : He.DefD := ⟨("check_bodies", none), "check_bodies", "check_bodies", defArgs s_check_bodies, defBody s_check_bodies, defScope s_check_bodies, [], []⟩
abbrev D_check_body : He.DefD := ⟨("check_body", none), "check_body", "check_body", defArgs s_check_body, defBody s_check_body, defScope s_check_body, [], []⟩
abbrev D_Rule_init : He.DefD := ⟨("Rule", some "__init__"), "__init__", "Rule.__init__", defArgs s_Rule_init, defBody s_Rule_init, defScope s_Rule_init, [], []⟩
abbrev D_Rule_eq : He.DefD := ⟨("Rule", some "__eq__"), "__eq__", "Rule.__eq__", defArgs s_Rule_eq, defBody s_Rule_eq, defScope s_Rule_eq, [], []⟩
abbrev D_all_rules : He.DefD := ⟨("all_rules", none), "all_rules", "all_rules", defArgs s_all_rules, defBody s_all_rules, defScope s_all_rules, [], []⟩
abbrev D_law_state : He.DefD := ⟨("_law_state", none), "_law_state", "_law_state", defArgs s_law_state, defBody s_law_state, defScope s_law_state, [], []⟩
abbrev D_law_draw : He.DefD := ⟨("_law_draw", none), "_law_draw", "_law_draw", defArgs s_law_draw, defBody s_law_draw, defScope s_law_draw, [], []⟩
abbrev D_law_names : He.DefD := ⟨("_law_names", none), "_law_names", "_law_names", defArgs s_law_names, defBody s_law_names, defScope s_law_names, [], []⟩
abbrev D_law_many : He.DefD := ⟨("_law_many", none), "_law_many", "_law_many", defArgs s_law_many, defBody s_law_many, defScope s_law_many, [], []⟩
abbrev D_law_row : He.DefD := ⟨("_law_row", none), "_law_row", "_law_row", defArgs s_law_row, defBody s_law_row, defScope s_law_row, [], []⟩
abbrev D_law_rows : He.DefD := ⟨("_law_rows", none), "_law_rows", "_law_rows", defArgs s_law_rows, defBody s_law_rows, defScope s_law_rows, [], []⟩
abbrev D_law_parts : He.DefD := ⟨("_law_parts", none), "_law_parts", "_law_parts", defArgs s_law_parts, defBody s_law_parts, defScope s_law_parts, [], []⟩
abbrev D_law_deed : He.DefD := ⟨("_law_deed", none), "_law_deed", "_law_deed", defArgs s_law_deed, defBody s_law_deed, defScope s_law_deed, [], []⟩
abbrev D_law_listed : He.DefD := ⟨("_law_listed", none), "_law_listed", "_law_listed", defArgs s_law_listed, defBody s_law_listed, defScope s_law_listed, [], []⟩
abbrev D_law_bad : He.DefD := ⟨("_law_bad", none), "_law_bad", "_law_bad", defArgs s_law_bad, defBody s_law_bad, defScope s_law_bad, [], []⟩
abbrev D_law_pair : He.DefD := ⟨("_law_pair", none), "_law_pair", "_law_pair", defArgs s_law_pair, defBody s_law_pair, defScope s_law_pair, [], []⟩
abbrev D_law_good : He.DefD := ⟨("_law_good", none), "_law_good", "_law_good", defArgs s_law_good, defBody s_law_good, defScope s_law_good, [], []⟩
abbrev D_law_rule : He.DefD := ⟨("_law_rule", none), "_law_rule", "_law_rule", defArgs s_law_rule, defBody s_law_rule, defScope s_law_rule, [], []⟩
abbrev D_law_made : He.DefD := ⟨("_law_made", none), "_law_made", "_law_made", defArgs s_law_made, defBody s_law_made, defScope s_law_made, [], []⟩
abbrev D_law_fault : He.DefD := ⟨("_law_fault", none), "_law_fault", "_law_fault", defArgs s_law_fault, defBody s_law_fault, defScope s_law_fault, [], []⟩
abbrev D_law_first_part : He.DefD := ⟨("_law_first_part", none), "_law_first_part", "_law_first_part", defArgs s_law_first_part, defBody s_law_first_part, defScope s_law_first_part, [], []⟩
abbrev D_law_second_part : He.DefD := ⟨("_law_second_part", none), "_law_second_part", "_law_second_part", defArgs s_law_second_part, defBody s_law_second_part, defScope s_law_second_part, [], []⟩
abbrev D_law : He.DefD := ⟨("law", none), "law", "law", defArgs s_law, defBody s_law, defScope s_law, [], []⟩
def us : List SupD := []
def fa0 : List He.Fa := [.glo "is_deed", .glo "is_write", .glo "is_batch", .glo "deeds", .glo "pairs_of_writes", .glo "is_name", .glo "are_names", .glo "are_named_pairs", .glo "is_read_row", .glo "is_put_row", .glo "is_if_row", .glo "is_slot_row", .glo "is_write_row", .glo "check_of", .glo "is_valid_row", .glo "first_wrong_path", .glo "paths_of_rows", .glo "names_of", .glo "check_parts", .glo "check_bodies", .glo "check_body", .glo "all_rules", .glo "_law_state", .glo "_law_draw", .glo "_law_names", .glo "_law_many", .glo "_law_row", .glo "_law_rows", .glo "_law_parts", .glo "_law_deed"]
def fa1 : List He.Fa := [.glo "_law_listed", .glo "_law_bad", .glo "_law_pair", .glo "_law_good", .glo "_law_rule", .glo "_law_made", .glo "_law_fault", .glo "_law_first_part", .glo "_law_second_part", .glo "law", .free "isinstance", .free "str", .free "tuple", .free "list", .free "len", .free "all", .free "set", .free "enumerate", .free "range", .free "abs", .free "int", .free "max", .free "dict", .free "zip", .free "bool", .free "any", .int "LONGEST_NAME" 8, .int "MOST_ROWS" 16, .int "DEEPEST_IF" 3, .int "LEAST_WORDS" 2]
def fa2 : List He.Fa := [.int "MOST_WORDS" 4, .int "LEAST_SOURCES" 1, .int "MOST_SOURCES" 4, .int "MOST_DERIVED" 6, .int "MOST_EFFECTS" 4, .glo "ToldError", .glo "InvalidProgram", .glo "InvalidRule", .exm "InvalidRule" "InvalidRule" true, .glo "InvalidStart", .glo "UnknownCell", .glo "Scope", .cls "Scope", .mkr "Scope", .noat "Scope" "kind", .noat "Scope" "words", .noat "Scope" "sources", .noat "Scope" "readable", .glo "Program", .cls "Program", .mkr "Program", .noat "Program" "words", .noat "Program" "sources", .noat "Program" "derived", .noat "Program" "effects", .noat "Program" "_derived_names", .noat "Program" "_effect_names", .meth "Program" "cells", .meth "Program" "derived_names", .meth "Program" "effect_names"]
def fa3 : List He.Fa := [.meth "Program" "body", .meth "Program" "row_paths", .meth "Program" "row_at", .meth "Program" "with_row", .glo "Rule", .cls "Rule", .mkr "Rule", .noat "Rule" "mode", .noat "Rule" "cut", .noat "Rule" "inner", .glo "MODES", .glo "INNERS", .glo "DERIVED_FORMS", .glo "EFFECT_FORMS"]
def fa : List He.Fa := fa0 ++ (fa1 ++ (fa2 ++ (fa3)))
def fn0 : List He.DefD := [D_InvalidProgram_init, D_InvalidRule_init, D_InvalidStart_init, D_UnknownCell_init, D_is_deed, D_is_write, D_is_batch, D_deeds, D_pairs_of_writes, D_is_name, D_are_names, D_are_named_pairs, D_Scope_init, D_is_read_row, D_is_put_row, D_is_if_row, D_is_slot_row, D_is_write_row, D_check_of, D_is_valid_row, D_first_wrong_path, D_paths_of_rows, D_Program_init, D_Program_eq, D_Program_cells, D_Program_derived_names, D_Program_effect_names, D_Program_body, D_Program_row_paths, D_Program_row_at]
def fn1 : List He.DefD := [D_Program_with_row, D_names_of, D_check_parts, D_check_bodies, D_check_body, D_Rule_init, D_Rule_eq, D_all_rules, D_law_state, D_law_draw, D_law_names, D_law_many, D_law_row, D_law_rows, D_law_parts, D_law_deed, D_law_listed, D_law_bad, D_law_pair, D_law_good, D_law_rule, D_law_made, D_law_fault, D_law_first_part, D_law_second_part, D_law]
def fn : List He.DefD := fn0 ++ (fn1)
def ts : List He.Tab := [(fun K => He.ga K "DERIVED_FORMS", ["read", "put", "if", "give"]), (fun K => He.ga K "EFFECT_FORMS", ["read", "peek", "put", "if", "write", "say"])]
def vt : List (Str × List (Str × He.Dv)) := [("DERIVED_FORMS", [("read", He.Dv.glo "is_read_row"), ("put", He.Dv.glo "is_put_row"), ("if", He.Dv.glo "is_if_row"), ("give", He.Dv.glo "is_slot_row")]), ("EFFECT_FORMS", [("read", He.Dv.glo "is_read_row"), ("peek", He.Dv.glo "is_read_row"), ("put", He.Dv.glo "is_put_row"), ("if", He.Dv.glo "is_if_row"), ("write", He.Dv.glo "is_write_row"), ("say", He.Dv.glo "is_slot_row")])]
def xs : List (Str × Str) := [("InvalidRule", "part")]
def ex (K : PySem.W.Frag) : Bool := (vt.all fun t => He.valsB K (He.ga K t.1) t.2) && ((xs.all fun q => excB K q.1 q.2) && (tupB K (He.ga K "MODES") ["push", "pull", "level"] && (tupB K (He.ga K "INNERS") ["once", "later"] && (askB K (He.ga K "InvalidRule") && (kitB K (.ref (He.ga K "InvalidRule")) (.ref (He.ga K "ToldError")) true && (kitB K (.ref (He.ga K "InvalidRule")) (.ref (He.ga K "InvalidStart")) false && (He.eqO (PySem.W.findIn K (.ref (He.ga K "Rule")) "__eq__") (some (some (.ref (He.fAd K ("Rule", some "__eq__"))))) && (PySem.W.isFn K (.ref (He.fAd K ("Rule", some "__eq__"))) && (ownB K (He.ga K "Rule"))))))))))
theorem deeds_binds {K : PySem.W.Frag} {f : Addr} {fd : FuncData} (F : FunD K "deeds" "deeds" (defArgs s_deeds) (defBody s_deeds) (defScope s_deeds) [] [("batches", .bl true)] f fd) : ∃ ds, Vals [V.bl true] ds ∧ Binds K fd ["program", "batches"] ds :=
  F.binds0 (ps := ["program", "batches"]) 1 (by simp) rfl fun D doc pm an cdv ct us ks l1 l2 => match us, ks, l1, l2 with
    | [_], [_], _, _ => ⟨_, _, _, _, _, _, rfl, rfl, rfl⟩
theorem deeds_kbinds {K : PySem.W.Frag} {f : Addr} {fd : FuncData} (F : FunD K "deeds" "deeds" (defArgs s_deeds) (defBody s_deeds) (defScope s_deeds) [] [("batches", .bl true)] f fd) : ∃ mv : List Value, KBn K fd ["program", "batches"] 1 ["batches"] (fun us ws => us ++ ws) (fun vs zs => vs ++ zs) := by
  have := F.kbinds0 (ps := ["program", "batches"]) 1 ["batches"] [] (fun us mv ws => us ++ ws) (by simp) (by simp) (fun a _ b => a.append b) fun D doc pm an cdv ct us mv ws l1 l2 l3 => match us, mv, ws, l1, l2, l3 with
    | [_], [], [_], _, _, _ => rfl
  exact this
theorem deeds_ds {K : PySem.W.Frag} {fd : FuncData} {ds : List Value} (r : Vals [V.bl true] ds) (h : Binds K fd ["program", "batches"] ds) : Binds K fd ["program", "batches"] [.bool true] := by
  cases r with
  | cons a b => cases b; cases a; exact h
theorem fun_of {K : PySem.W.Frag} {x qual : Str} {st : Stmt} {f : Addr} (h : ∃ fd, FunD K x qual (defArgs st) (defBody st) (defScope st) [] [] f fd) : ∃ fd, Fun K x qual st f fd := by
  obtain ⟨fd, F⟩ := h
  obtain ⟨oc, od, dV, kV, doc, pm, an, cdv, ct, osl, e, lk, hcd, hD, hK⟩ := F.ex
  rcases hD with ⟨_, rfl⟩ | ⟨z, _⟩
  · exact ⟨fd, ⟨oc, od, kV, doc, pm, an, cdv, ct, osl, e, lk, hcd⟩, F.kp⟩
  · exact absurd rfl z
theorem val_of {K : PySem.W.Frag} {t : Str × List (Str × He.Dv)} (h : He.valsB K (He.ga K t.1) t.2 = true) (q : Str × He.Dv) (hq : q ∈ t.2) : ∃ u, PySem.W.nsIn K (He.ga K t.1) q.1 = some (some u) ∧ RelV (q.2.v K) u := He.valsB_ok h hq
theorem kdct_of {K : PySem.W.Frag} {w : World} {a : Addr} {es : Array DictEntry} {n : Nat} {x : Str} {v : V} (l : K.lookup a = some ⟨.type "dict", none, .dict es n, #[]⟩) (y : PySem.W.KeysLit w.params es.toList) (h : ∃ u, PySem.W.nsIn K a x = some (some u) ∧ RelV v u) : KDct K w a x v := by
  obtain ⟨u, h1, h2⟩ := h
  exact ⟨es, n, u, l, y, h1, h2⟩
theorem law_binds {K : PySem.W.Frag} {x qual : Str} {st : Stmt} {f : Addr} {fd : FuncData} {ps : List Str} (F : Fun K x qual st f fd)
    (h : ∀ (kV doc pm : Value) (an : Option Addr) (cdv ct : Value) (us : List Value), us.length = ps.length → bindArgs (PySem.W.fnOf x qual (defArgs st) (defBody st) (defScope st) .none kV doc pm an cdv ct) ⟨us, []⟩ = pure (ps.zip us)) (s : Shared) (us : List Value) (hl : us.length = ps.length) : BindsTo s fd ⟨us, []⟩ (ps.zip us) := by
  obtain ⟨oc, od, kV, doc, pm, an, cdv, ct, osl, rfl, lk, hcd⟩ := F.ex
  exact .of_eq (h kV doc pm an cdv ct us hl)
theorem tops {w : World} {K : PySem.W.Frag} {h : Heap} {mg : Str → Option Value} (X : K.In h) (G : h.Ns mainGlobals mg) (c : SaysU fa fn ts us ex w K) : ∃ T : Tops w K mg, ∀ (s : Shared) (u : Value), BindsTo s T.d_law ⟨[u], []⟩ [("_law_script", u)] := by
  obtain ⟨d_InvalidProgram_init, F_InvalidProgram_init⟩ := fun_of (x := "__init__") (qual := "InvalidProgram.__init__") (st := s_InvalidProgram_init) (f := He.fAd K ("InvalidProgram", some "__init__")) (c.t.d.def_ 0 (d := D_InvalidProgram_init) rfl)
  obtain ⟨d_InvalidRule_init, F_InvalidRule_init⟩ := fun_of (x := "__init__") (qual := "InvalidRule.__init__") (st := s_InvalidRule_init) (f := He.fAd K ("InvalidRule", some "__init__")) (c.t.d.def_ 1 (d := D_InvalidRule_init) rfl)
  obtain ⟨d_InvalidStart_init, F_InvalidStart_init⟩ := fun_of (x := "__init__") (qual := "InvalidStart.__init__") (st := s_InvalidStart_init) (f := He.fAd K ("InvalidStart", some "__init__")) (c.t.d.def_ 2 (d := D_InvalidStart_init) rfl)
  obtain ⟨d_UnknownCell_init, F_UnknownCell_init⟩ := fun_of (x := "__init__") (qual := "UnknownCell.__init__") (st := s_UnknownCell_init) (f := He.fAd K ("UnknownCell", some "__init__")) (c.t.d.def_ 3 (d := D_UnknownCell_init) rfl)
  obtain ⟨d_is_deed, F_is_deed⟩ := fun_of (x := "is_deed") (qual := "is_deed") (st := s_is_deed) (f := He.fAd K ("is_deed", none)) (c.t.d.def_ 4 (d := D_is_deed) rfl)
  obtain ⟨d_is_write, F_is_write⟩ := fun_of (x := "is_write") (qual := "is_write") (st := s_is_write) (f := He.fAd K ("is_write", none)) (c.t.d.def_ 5 (d := D_is_write) rfl)
  obtain ⟨d_is_batch, F_is_batch⟩ := fun_of (x := "is_batch") (qual := "is_batch") (st := s_is_batch) (f := He.fAd K ("is_batch", none)) (c.t.d.def_ 6 (d := D_is_batch) rfl)
  obtain ⟨d_deeds, F_deeds⟩ := c.t.d.def_ 7 (d := D_deeds) rfl
  obtain ⟨ds_deeds, rd_deeds, b_deeds⟩ := deeds_binds F_deeds
  obtain ⟨_, kb_deeds⟩ := deeds_kbinds F_deeds
  obtain ⟨d_pairs_of_writes, F_pairs_of_writes⟩ := fun_of (x := "pairs_of_writes") (qual := "pairs_of_writes") (st := s_pairs_of_writes) (f := He.fAd K ("pairs_of_writes", none)) (c.t.d.def_ 8 (d := D_pairs_of_writes) rfl)
  obtain ⟨d_is_name, F_is_name⟩ := fun_of (x := "is_name") (qual := "is_name") (st := s_is_name) (f := He.fAd K ("is_name", none)) (c.t.d.def_ 9 (d := D_is_name) rfl)
  obtain ⟨d_are_names, F_are_names⟩ := fun_of (x := "are_names") (qual := "are_names") (st := s_are_names) (f := He.fAd K ("are_names", none)) (c.t.d.def_ 10 (d := D_are_names) rfl)
  obtain ⟨d_are_named_pairs, F_are_named_pairs⟩ := fun_of (x := "are_named_pairs") (qual := "are_named_pairs") (st := s_are_named_pairs) (f := He.fAd K ("are_named_pairs", none)) (c.t.d.def_ 11 (d := D_are_named_pairs) rfl)
  obtain ⟨d_Scope_init, F_Scope_init⟩ := fun_of (x := "__init__") (qual := "Scope.__init__") (st := s_Scope_init) (f := He.fAd K ("Scope", some "__init__")) (c.t.d.def_ 12 (d := D_Scope_init) rfl)
  obtain ⟨d_is_read_row, F_is_read_row⟩ := fun_of (x := "is_read_row") (qual := "is_read_row") (st := s_is_read_row) (f := He.fAd K ("is_read_row", none)) (c.t.d.def_ 13 (d := D_is_read_row) rfl)
  obtain ⟨d_is_put_row, F_is_put_row⟩ := fun_of (x := "is_put_row") (qual := "is_put_row") (st := s_is_put_row) (f := He.fAd K ("is_put_row", none)) (c.t.d.def_ 14 (d := D_is_put_row) rfl)
  obtain ⟨d_is_if_row, F_is_if_row⟩ := fun_of (x := "is_if_row") (qual := "is_if_row") (st := s_is_if_row) (f := He.fAd K ("is_if_row", none)) (c.t.d.def_ 15 (d := D_is_if_row) rfl)
  obtain ⟨d_is_slot_row, F_is_slot_row⟩ := fun_of (x := "is_slot_row") (qual := "is_slot_row") (st := s_is_slot_row) (f := He.fAd K ("is_slot_row", none)) (c.t.d.def_ 16 (d := D_is_slot_row) rfl)
  obtain ⟨d_is_write_row, F_is_write_row⟩ := fun_of (x := "is_write_row") (qual := "is_write_row") (st := s_is_write_row) (f := He.fAd K ("is_write_row", none)) (c.t.d.def_ 17 (d := D_is_write_row) rfl)
  obtain ⟨d_check_of, F_check_of⟩ := fun_of (x := "check_of") (qual := "check_of") (st := s_check_of) (f := He.fAd K ("check_of", none)) (c.t.d.def_ 18 (d := D_check_of) rfl)
  obtain ⟨d_is_valid_row, F_is_valid_row⟩ := fun_of (x := "is_valid_row") (qual := "is_valid_row") (st := s_is_valid_row) (f := He.fAd K ("is_valid_row", none)) (c.t.d.def_ 19 (d := D_is_valid_row) rfl)
  obtain ⟨d_first_wrong_path, F_first_wrong_path⟩ := fun_of (x := "first_wrong_path") (qual := "first_wrong_path") (st := s_first_wrong_path) (f := He.fAd K ("first_wrong_path", none)) (c.t.d.def_ 20 (d := D_first_wrong_path) rfl)
  obtain ⟨d_paths_of_rows, F_paths_of_rows⟩ := fun_of (x := "paths_of_rows") (qual := "paths_of_rows") (st := s_paths_of_rows) (f := He.fAd K ("paths_of_rows", none)) (c.t.d.def_ 21 (d := D_paths_of_rows) rfl)
  obtain ⟨d_Program_init, F_Program_init⟩ := fun_of (x := "__init__") (qual := "Program.__init__") (st := s_Program_init) (f := He.fAd K ("Program", some "__init__")) (c.t.d.def_ 22 (d := D_Program_init) rfl)
  obtain ⟨d_Program_eq, F_Program_eq⟩ := fun_of (x := "__eq__") (qual := "Program.__eq__") (st := s_Program_eq) (f := He.fAd K ("Program", some "__eq__")) (c.t.d.def_ 23 (d := D_Program_eq) rfl)
  obtain ⟨d_Program_cells, F_Program_cells⟩ := fun_of (x := "cells") (qual := "Program.cells") (st := s_Program_cells) (f := He.fAd K ("Program", some "cells")) (c.t.d.def_ 24 (d := D_Program_cells) rfl)
  obtain ⟨d_Program_derived_names, F_Program_derived_names⟩ := fun_of (x := "derived_names") (qual := "Program.derived_names") (st := s_Program_derived_names) (f := He.fAd K ("Program", some "derived_names")) (c.t.d.def_ 25 (d := D_Program_derived_names) rfl)
  obtain ⟨d_Program_effect_names, F_Program_effect_names⟩ := fun_of (x := "effect_names") (qual := "Program.effect_names") (st := s_Program_effect_names) (f := He.fAd K ("Program", some "effect_names")) (c.t.d.def_ 26 (d := D_Program_effect_names) rfl)
  obtain ⟨d_Program_body, F_Program_body⟩ := fun_of (x := "body") (qual := "Program.body") (st := s_Program_body) (f := He.fAd K ("Program", some "body")) (c.t.d.def_ 27 (d := D_Program_body) rfl)
  obtain ⟨d_Program_row_paths, F_Program_row_paths⟩ := fun_of (x := "row_paths") (qual := "Program.row_paths") (st := s_Program_row_paths) (f := He.fAd K ("Program", some "row_paths")) (c.t.d.def_ 28 (d := D_Program_row_paths) rfl)
  obtain ⟨d_Program_row_at, F_Program_row_at⟩ := fun_of (x := "row_at") (qual := "Program.row_at") (st := s_Program_row_at) (f := He.fAd K ("Program", some "row_at")) (c.t.d.def_ 29 (d := D_Program_row_at) rfl)
  obtain ⟨d_Program_with_row, F_Program_with_row⟩ := fun_of (x := "with_row") (qual := "Program.with_row") (st := s_Program_with_row) (f := He.fAd K ("Program", some "with_row")) (c.t.d.def_ 30 (d := D_Program_with_row) rfl)
  obtain ⟨d_names_of, F_names_of⟩ := fun_of (x := "names_of") (qual := "names_of") (st := s_names_of) (f := He.fAd K ("names_of", none)) (c.t.d.def_ 31 (d := D_names_of) rfl)
  obtain ⟨d_check_parts, F_check_parts⟩ := fun_of (x := "check_parts") (qual := "check_parts") (st := s_check_parts) (f := He.fAd K ("check_parts", none)) (c.t.d.def_ 32 (d := D_check_parts) rfl)
  obtain ⟨d_check_bodies, F_check_bodies⟩ := fun_of (x := "check_bodies") (qual := "check_bodies") (st := s_check_bodies) (f := He.fAd K ("check_bodies", none)) (c.t.d.def_ 33 (d := D_check_bodies) rfl)
  obtain ⟨d_check_body, F_check_body⟩ := fun_of (x := "check_body") (qual := "check_body") (st := s_check_body) (f := He.fAd K ("check_body", none)) (c.t.d.def_ 34 (d := D_check_body) rfl)
  obtain ⟨d_Rule_init, F_Rule_init⟩ := fun_of (x := "__init__") (qual := "Rule.__init__") (st := s_Rule_init) (f := He.fAd K ("Rule", some "__init__")) (c.t.d.def_ 35 (d := D_Rule_init) rfl)
  obtain ⟨d_Rule_eq, F_Rule_eq⟩ := fun_of (x := "__eq__") (qual := "Rule.__eq__") (st := s_Rule_eq) (f := He.fAd K ("Rule", some "__eq__")) (c.t.d.def_ 36 (d := D_Rule_eq) rfl)
  obtain ⟨d_all_rules, F_all_rules⟩ := fun_of (x := "all_rules") (qual := "all_rules") (st := s_all_rules) (f := He.fAd K ("all_rules", none)) (c.t.d.def_ 37 (d := D_all_rules) rfl)
  obtain ⟨d_law_state, F_law_state⟩ := fun_of (x := "_law_state") (qual := "_law_state") (st := s_law_state) (f := He.fAd K ("_law_state", none)) (c.t.d.def_ 38 (d := D_law_state) rfl)
  obtain ⟨d_law_draw, F_law_draw⟩ := fun_of (x := "_law_draw") (qual := "_law_draw") (st := s_law_draw) (f := He.fAd K ("_law_draw", none)) (c.t.d.def_ 39 (d := D_law_draw) rfl)
  obtain ⟨d_law_names, F_law_names⟩ := fun_of (x := "_law_names") (qual := "_law_names") (st := s_law_names) (f := He.fAd K ("_law_names", none)) (c.t.d.def_ 40 (d := D_law_names) rfl)
  obtain ⟨d_law_many, F_law_many⟩ := fun_of (x := "_law_many") (qual := "_law_many") (st := s_law_many) (f := He.fAd K ("_law_many", none)) (c.t.d.def_ 41 (d := D_law_many) rfl)
  obtain ⟨d_law_row, F_law_row⟩ := fun_of (x := "_law_row") (qual := "_law_row") (st := s_law_row) (f := He.fAd K ("_law_row", none)) (c.t.d.def_ 42 (d := D_law_row) rfl)
  obtain ⟨d_law_rows, F_law_rows⟩ := fun_of (x := "_law_rows") (qual := "_law_rows") (st := s_law_rows) (f := He.fAd K ("_law_rows", none)) (c.t.d.def_ 43 (d := D_law_rows) rfl)
  obtain ⟨d_law_parts, F_law_parts⟩ := fun_of (x := "_law_parts") (qual := "_law_parts") (st := s_law_parts) (f := He.fAd K ("_law_parts", none)) (c.t.d.def_ 44 (d := D_law_parts) rfl)
  obtain ⟨d_law_deed, F_law_deed⟩ := fun_of (x := "_law_deed") (qual := "_law_deed") (st := s_law_deed) (f := He.fAd K ("_law_deed", none)) (c.t.d.def_ 45 (d := D_law_deed) rfl)
  obtain ⟨d_law_listed, F_law_listed⟩ := fun_of (x := "_law_listed") (qual := "_law_listed") (st := s_law_listed) (f := He.fAd K ("_law_listed", none)) (c.t.d.def_ 46 (d := D_law_listed) rfl)
  obtain ⟨d_law_bad, F_law_bad⟩ := fun_of (x := "_law_bad") (qual := "_law_bad") (st := s_law_bad) (f := He.fAd K ("_law_bad", none)) (c.t.d.def_ 47 (d := D_law_bad) rfl)
  obtain ⟨d_law_pair, F_law_pair⟩ := fun_of (x := "_law_pair") (qual := "_law_pair") (st := s_law_pair) (f := He.fAd K ("_law_pair", none)) (c.t.d.def_ 48 (d := D_law_pair) rfl)
  obtain ⟨d_law_good, F_law_good⟩ := fun_of (x := "_law_good") (qual := "_law_good") (st := s_law_good) (f := He.fAd K ("_law_good", none)) (c.t.d.def_ 49 (d := D_law_good) rfl)
  obtain ⟨d_law_rule, F_law_rule⟩ := fun_of (x := "_law_rule") (qual := "_law_rule") (st := s_law_rule) (f := He.fAd K ("_law_rule", none)) (c.t.d.def_ 50 (d := D_law_rule) rfl)
  obtain ⟨d_law_made, F_law_made⟩ := fun_of (x := "_law_made") (qual := "_law_made") (st := s_law_made) (f := He.fAd K ("_law_made", none)) (c.t.d.def_ 51 (d := D_law_made) rfl)
  obtain ⟨d_law_fault, F_law_fault⟩ := fun_of (x := "_law_fault") (qual := "_law_fault") (st := s_law_fault) (f := He.fAd K ("_law_fault", none)) (c.t.d.def_ 52 (d := D_law_fault) rfl)
  obtain ⟨d_law_first_part, F_law_first_part⟩ := fun_of (x := "_law_first_part") (qual := "_law_first_part") (st := s_law_first_part) (f := He.fAd K ("_law_first_part", none)) (c.t.d.def_ 53 (d := D_law_first_part) rfl)
  obtain ⟨d_law_second_part, F_law_second_part⟩ := fun_of (x := "_law_second_part") (qual := "_law_second_part") (st := s_law_second_part) (f := He.fAd K ("_law_second_part", none)) (c.t.d.def_ 54 (d := D_law_second_part) rfl)
  obtain ⟨d_law, F_law⟩ := fun_of (x := "law") (qual := "law") (st := s_law) (f := He.fAd K ("law", none)) (c.t.d.def_ 55 (d := D_law) rfl)
  obtain ⟨f_mod, r_f_mod⟩ := He.ba (He.ba (He.ba c.more).2).2
  obtain ⟨f_inn, r_f_inn⟩ := He.ba r_f_mod
  obtain ⟨f_ask, r_f_ask⟩ := He.ba r_f_inn
  obtain ⟨f_told, r_f_told⟩ := He.ba r_f_ask
  obtain ⟨f_start, r_f_start⟩ := He.ba r_f_told
  obtain ⟨f_eq, r_f_eq⟩ := He.ba r_f_start
  obtain ⟨f_fn, r_f_fn⟩ := He.ba r_f_eq
  have f_own := r_f_fn
  have E_InvalidRule := excB_ok (List.all_eq_true.mp (He.ba (He.ba c.more).2).1 ("InvalidRule", "part") (by simp [xs]))
  obtain ⟨u_LONGEST_NAME, e_LONGEST_NAME⟩ := He.int_ok X G (c.t.d.fact 56 (f := .int "LONGEST_NAME" 8) rfl)
  obtain ⟨u_MOST_ROWS, e_MOST_ROWS⟩ := He.int_ok X G (c.t.d.fact 57 (f := .int "MOST_ROWS" 16) rfl)
  obtain ⟨u_DEEPEST_IF, e_DEEPEST_IF⟩ := He.int_ok X G (c.t.d.fact 58 (f := .int "DEEPEST_IF" 3) rfl)
  obtain ⟨u_LEAST_WORDS, e_LEAST_WORDS⟩ := He.int_ok X G (c.t.d.fact 59 (f := .int "LEAST_WORDS" 2) rfl)
  obtain ⟨u_MOST_WORDS, e_MOST_WORDS⟩ := He.int_ok X G (c.t.d.fact 60 (f := .int "MOST_WORDS" 4) rfl)
  obtain ⟨u_LEAST_SOURCES, e_LEAST_SOURCES⟩ := He.int_ok X G (c.t.d.fact 61 (f := .int "LEAST_SOURCES" 1) rfl)
  obtain ⟨u_MOST_SOURCES, e_MOST_SOURCES⟩ := He.int_ok X G (c.t.d.fact 62 (f := .int "MOST_SOURCES" 4) rfl)
  obtain ⟨u_MOST_DERIVED, e_MOST_DERIVED⟩ := He.int_ok X G (c.t.d.fact 63 (f := .int "MOST_DERIVED" 6) rfl)
  obtain ⟨u_MOST_EFFECTS, e_MOST_EFFECTS⟩ := He.int_ok X G (c.t.d.fact 64 (f := .int "MOST_EFFECTS" 4) rfl)
  obtain ⟨es_DERIVED_FORMS, n_DERIVED_FORMS, L_DERIVED_FORMS, Y_DERIVED_FORMS, S_DERIVED_FORMS⟩ := c.t.tab 0 (t := (fun K => He.ga K "DERIVED_FORMS", ["read", "put", "if", "give"])) rfl
  have V_DERIVED_FORMS := val_of (List.all_eq_true.mp (He.ba c.more).1 (("DERIVED_FORMS" : Str), ([("read", He.Dv.glo "is_read_row"), ("put", He.Dv.glo "is_put_row"), ("if", He.Dv.glo "is_if_row"), ("give", He.Dv.glo "is_slot_row")] : List (Str × He.Dv))) (by simp [vt]))
  obtain ⟨es_EFFECT_FORMS, n_EFFECT_FORMS, L_EFFECT_FORMS, Y_EFFECT_FORMS, S_EFFECT_FORMS⟩ := c.t.tab 1 (t := (fun K => He.ga K "EFFECT_FORMS", ["read", "peek", "put", "if", "write", "say"])) rfl
  have V_EFFECT_FORMS := val_of (List.all_eq_true.mp (He.ba c.more).1 (("EFFECT_FORMS" : Str), ([("read", He.Dv.glo "is_read_row"), ("peek", He.Dv.glo "is_read_row"), ("put", He.Dv.glo "is_put_row"), ("if", He.Dv.glo "is_if_row"), ("write", He.Dv.glo "is_write_row"), ("say", He.Dv.glo "is_slot_row")] : List (Str × He.Dv))) (by simp [vt]))
  exact ⟨{
    z_isinstance := He.free_ok X G (c.t.d.fact 40 (f := .free "isinstance") rfl)
    z_str := He.free_ok X G (c.t.d.fact 41 (f := .free "str") rfl)
    z_tuple := He.free_ok X G (c.t.d.fact 42 (f := .free "tuple") rfl)
    z_list := He.free_ok X G (c.t.d.fact 43 (f := .free "list") rfl)
    z_len := He.free_ok X G (c.t.d.fact 44 (f := .free "len") rfl)
    z_all := He.free_ok X G (c.t.d.fact 45 (f := .free "all") rfl)
    z_set := He.free_ok X G (c.t.d.fact 46 (f := .free "set") rfl)
    z_enumerate := He.free_ok X G (c.t.d.fact 47 (f := .free "enumerate") rfl)
    z_range := He.free_ok X G (c.t.d.fact 48 (f := .free "range") rfl)
    z_abs := He.free_ok X G (c.t.d.fact 49 (f := .free "abs") rfl)
    z_int := He.free_ok X G (c.t.d.fact 50 (f := .free "int") rfl)
    z_max := He.free_ok X G (c.t.d.fact 51 (f := .free "max") rfl)
    z_dict := He.free_ok X G (c.t.d.fact 52 (f := .free "dict") rfl)
    z_zip := He.free_ok X G (c.t.d.fact 53 (f := .free "zip") rfl)
    z_bool := He.free_ok X G (c.t.d.fact 54 (f := .free "bool") rfl)
    z_any := He.free_ok X G (c.t.d.fact 55 (f := .free "any") rfl)
    u_LONGEST_NAME := u_LONGEST_NAME
    c_LONGEST_NAME := e_LONGEST_NAME
    u_MOST_ROWS := u_MOST_ROWS
    c_MOST_ROWS := e_MOST_ROWS
    u_DEEPEST_IF := u_DEEPEST_IF
    c_DEEPEST_IF := e_DEEPEST_IF
    u_LEAST_WORDS := u_LEAST_WORDS
    c_LEAST_WORDS := e_LEAST_WORDS
    u_MOST_WORDS := u_MOST_WORDS
    c_MOST_WORDS := e_MOST_WORDS
    u_LEAST_SOURCES := u_LEAST_SOURCES
    c_LEAST_SOURCES := e_LEAST_SOURCES
    u_MOST_SOURCES := u_MOST_SOURCES
    c_MOST_SOURCES := e_MOST_SOURCES
    u_MOST_DERIVED := u_MOST_DERIVED
    c_MOST_DERIVED := e_MOST_DERIVED
    u_MOST_EFFECTS := u_MOST_EFFECTS
    c_MOST_EFFECTS := e_MOST_EFFECTS
    a_InvalidProgram_init := He.fAd K ("InvalidProgram", some "__init__")
    d_InvalidProgram_init := d_InvalidProgram_init
    F_InvalidProgram_init := F_InvalidProgram_init
    b_InvalidProgram_init := F_InvalidProgram_init.binds (ps := ["self", "part", "path"]) fun _ _ _ _ _ _ us hl => match us, hl with | [_, _, _], _ => rfl
    a_InvalidRule_init := He.fAd K ("InvalidRule", some "__init__")
    d_InvalidRule_init := d_InvalidRule_init
    F_InvalidRule_init := F_InvalidRule_init
    b_InvalidRule_init := F_InvalidRule_init.binds (ps := ["self", "part"]) fun _ _ _ _ _ _ us hl => match us, hl with | [_, _], _ => rfl
    a_InvalidStart_init := He.fAd K ("InvalidStart", some "__init__")
    d_InvalidStart_init := d_InvalidStart_init
    F_InvalidStart_init := F_InvalidStart_init
    b_InvalidStart_init := F_InvalidStart_init.binds (ps := ["self", "words"]) fun _ _ _ _ _ _ us hl => match us, hl with | [_, _], _ => rfl
    a_UnknownCell_init := He.fAd K ("UnknownCell", some "__init__")
    d_UnknownCell_init := d_UnknownCell_init
    F_UnknownCell_init := F_UnknownCell_init
    b_UnknownCell_init := F_UnknownCell_init.binds (ps := ["self", "name"]) fun _ _ _ _ _ _ us hl => match us, hl with | [_, _], _ => rfl
    a_is_deed := He.fAd K ("is_deed", none)
    d_is_deed := d_is_deed
    F_is_deed := F_is_deed
    b_is_deed := F_is_deed.binds (ps := ["program", "value"]) fun _ _ _ _ _ _ us hl => match us, hl with | [_, _], _ => rfl
    m_is_deed := He.glo_ok X G (c.t.d.fact 0 (f := .glo "is_deed") rfl)
    a_is_write := He.fAd K ("is_write", none)
    d_is_write := d_is_write
    F_is_write := F_is_write
    b_is_write := F_is_write.binds (ps := ["program", "value"]) fun _ _ _ _ _ _ us hl => match us, hl with | [_, _], _ => rfl
    m_is_write := He.glo_ok X G (c.t.d.fact 1 (f := .glo "is_write") rfl)
    a_is_batch := He.fAd K ("is_batch", none)
    d_is_batch := d_is_batch
    F_is_batch := F_is_batch
    b_is_batch := F_is_batch.binds (ps := ["program", "value"]) fun _ _ _ _ _ _ us hl => match us, hl with | [_, _], _ => rfl
    m_is_batch := He.glo_ok X G (c.t.d.fact 2 (f := .glo "is_batch") rfl)
    a_deeds := He.fAd K ("deeds", none)
    d_deeds := d_deeds
    F_deeds := F_deeds
    b_deeds := deeds_ds rd_deeds b_deeds
    kb_deeds := kb_deeds
    m_deeds := He.glo_ok X G (c.t.d.fact 3 (f := .glo "deeds") rfl)
    a_pairs_of_writes := He.fAd K ("pairs_of_writes", none)
    d_pairs_of_writes := d_pairs_of_writes
    F_pairs_of_writes := F_pairs_of_writes
    b_pairs_of_writes := F_pairs_of_writes.binds (ps := ["program", "writes"]) fun _ _ _ _ _ _ us hl => match us, hl with | [_, _], _ => rfl
    m_pairs_of_writes := He.glo_ok X G (c.t.d.fact 4 (f := .glo "pairs_of_writes") rfl)
    a_is_name := He.fAd K ("is_name", none)
    d_is_name := d_is_name
    F_is_name := F_is_name
    b_is_name := F_is_name.binds (ps := ["value"]) fun _ _ _ _ _ _ us hl => match us, hl with | [_], _ => rfl
    m_is_name := He.glo_ok X G (c.t.d.fact 5 (f := .glo "is_name") rfl)
    a_are_names := He.fAd K ("are_names", none)
    d_are_names := d_are_names
    F_are_names := F_are_names
    b_are_names := F_are_names.binds (ps := ["value", "least", "most"]) fun _ _ _ _ _ _ us hl => match us, hl with | [_, _, _], _ => rfl
    m_are_names := He.glo_ok X G (c.t.d.fact 6 (f := .glo "are_names") rfl)
    a_are_named_pairs := He.fAd K ("are_named_pairs", none)
    d_are_named_pairs := d_are_named_pairs
    F_are_named_pairs := F_are_named_pairs
    b_are_named_pairs := F_are_named_pairs.binds (ps := ["value", "most", "taken"]) fun _ _ _ _ _ _ us hl => match us, hl with | [_, _, _], _ => rfl
    m_are_named_pairs := He.glo_ok X G (c.t.d.fact 7 (f := .glo "are_named_pairs") rfl)
    a_Scope_init := He.fAd K ("Scope", some "__init__")
    d_Scope_init := d_Scope_init
    F_Scope_init := F_Scope_init
    b_Scope_init := F_Scope_init.binds (ps := ["self", "kind", "words", "sources", "readable"]) fun _ _ _ _ _ _ us hl => match us, hl with | [_, _, _, _, _], _ => rfl
    a_is_read_row := He.fAd K ("is_read_row", none)
    d_is_read_row := d_is_read_row
    F_is_read_row := F_is_read_row
    b_is_read_row := F_is_read_row.binds (ps := ["row", "scope"]) fun _ _ _ _ _ _ us hl => match us, hl with | [_, _], _ => rfl
    m_is_read_row := He.glo_ok X G (c.t.d.fact 8 (f := .glo "is_read_row") rfl)
    a_is_put_row := He.fAd K ("is_put_row", none)
    d_is_put_row := d_is_put_row
    F_is_put_row := F_is_put_row
    b_is_put_row := F_is_put_row.binds (ps := ["row", "scope"]) fun _ _ _ _ _ _ us hl => match us, hl with | [_, _], _ => rfl
    m_is_put_row := He.glo_ok X G (c.t.d.fact 9 (f := .glo "is_put_row") rfl)
    a_is_if_row := He.fAd K ("is_if_row", none)
    d_is_if_row := d_is_if_row
    F_is_if_row := F_is_if_row
    b_is_if_row := F_is_if_row.binds (ps := ["row", "scope"]) fun _ _ _ _ _ _ us hl => match us, hl with | [_, _], _ => rfl
    m_is_if_row := He.glo_ok X G (c.t.d.fact 10 (f := .glo "is_if_row") rfl)
    a_is_slot_row := He.fAd K ("is_slot_row", none)
    d_is_slot_row := d_is_slot_row
    F_is_slot_row := F_is_slot_row
    b_is_slot_row := F_is_slot_row.binds (ps := ["row", "scope"]) fun _ _ _ _ _ _ us hl => match us, hl with | [_, _], _ => rfl
    m_is_slot_row := He.glo_ok X G (c.t.d.fact 11 (f := .glo "is_slot_row") rfl)
    a_is_write_row := He.fAd K ("is_write_row", none)
    d_is_write_row := d_is_write_row
    F_is_write_row := F_is_write_row
    b_is_write_row := F_is_write_row.binds (ps := ["row", "scope"]) fun _ _ _ _ _ _ us hl => match us, hl with | [_, _], _ => rfl
    m_is_write_row := He.glo_ok X G (c.t.d.fact 12 (f := .glo "is_write_row") rfl)
    a_check_of := He.fAd K ("check_of", none)
    d_check_of := d_check_of
    F_check_of := F_check_of
    b_check_of := F_check_of.binds (ps := ["kind", "form"]) fun _ _ _ _ _ _ us hl => match us, hl with | [_, _], _ => rfl
    m_check_of := He.glo_ok X G (c.t.d.fact 13 (f := .glo "check_of") rfl)
    a_is_valid_row := He.fAd K ("is_valid_row", none)
    d_is_valid_row := d_is_valid_row
    F_is_valid_row := F_is_valid_row
    b_is_valid_row := F_is_valid_row.binds (ps := ["row", "scope", "depth"]) fun _ _ _ _ _ _ us hl => match us, hl with | [_, _, _], _ => rfl
    m_is_valid_row := He.glo_ok X G (c.t.d.fact 14 (f := .glo "is_valid_row") rfl)
    a_first_wrong_path := He.fAd K ("first_wrong_path", none)
    d_first_wrong_path := d_first_wrong_path
    F_first_wrong_path := F_first_wrong_path
    b_first_wrong_path := F_first_wrong_path.binds (ps := ["rows", "scope", "base", "depth"]) fun _ _ _ _ _ _ us hl => match us, hl with | [_, _, _, _], _ => rfl
    m_first_wrong_path := He.glo_ok X G (c.t.d.fact 15 (f := .glo "first_wrong_path") rfl)
    a_paths_of_rows := He.fAd K ("paths_of_rows", none)
    d_paths_of_rows := d_paths_of_rows
    F_paths_of_rows := F_paths_of_rows
    b_paths_of_rows := F_paths_of_rows.binds (ps := ["rows", "base"]) fun _ _ _ _ _ _ us hl => match us, hl with | [_, _], _ => rfl
    m_paths_of_rows := He.glo_ok X G (c.t.d.fact 16 (f := .glo "paths_of_rows") rfl)
    a_Program_init := He.fAd K ("Program", some "__init__")
    d_Program_init := d_Program_init
    F_Program_init := F_Program_init
    b_Program_init := F_Program_init.binds (ps := ["self", "words", "sources", "derived", "effects"]) fun _ _ _ _ _ _ us hl => match us, hl with | [_, _, _, _, _], _ => rfl
    a_Program_eq := He.fAd K ("Program", some "__eq__")
    d_Program_eq := d_Program_eq
    F_Program_eq := F_Program_eq
    b_Program_eq := F_Program_eq.binds (ps := ["self", "other"]) fun _ _ _ _ _ _ us hl => match us, hl with | [_, _], _ => rfl
    a_Program_cells := He.fAd K ("Program", some "cells")
    d_Program_cells := d_Program_cells
    F_Program_cells := F_Program_cells
    b_Program_cells := F_Program_cells.binds (ps := ["self"]) fun _ _ _ _ _ _ us hl => match us, hl with | [_], _ => rfl
    a_Program_derived_names := He.fAd K ("Program", some "derived_names")
    d_Program_derived_names := d_Program_derived_names
    F_Program_derived_names := F_Program_derived_names
    b_Program_derived_names := F_Program_derived_names.binds (ps := ["self"]) fun _ _ _ _ _ _ us hl => match us, hl with | [_], _ => rfl
    a_Program_effect_names := He.fAd K ("Program", some "effect_names")
    d_Program_effect_names := d_Program_effect_names
    F_Program_effect_names := F_Program_effect_names
    b_Program_effect_names := F_Program_effect_names.binds (ps := ["self"]) fun _ _ _ _ _ _ us hl => match us, hl with | [_], _ => rfl
    a_Program_body := He.fAd K ("Program", some "body")
    d_Program_body := d_Program_body
    F_Program_body := F_Program_body
    b_Program_body := F_Program_body.binds (ps := ["self", "name"]) fun _ _ _ _ _ _ us hl => match us, hl with | [_, _], _ => rfl
    a_Program_row_paths := He.fAd K ("Program", some "row_paths")
    d_Program_row_paths := d_Program_row_paths
    F_Program_row_paths := F_Program_row_paths
    b_Program_row_paths := F_Program_row_paths.binds (ps := ["self"]) fun _ _ _ _ _ _ us hl => match us, hl with | [_], _ => rfl
    a_Program_row_at := He.fAd K ("Program", some "row_at")
    d_Program_row_at := d_Program_row_at
    F_Program_row_at := F_Program_row_at
    b_Program_row_at := F_Program_row_at.binds (ps := ["self", "path"]) fun _ _ _ _ _ _ us hl => match us, hl with | [_, _], _ => rfl
    a_Program_with_row := He.fAd K ("Program", some "with_row")
    d_Program_with_row := d_Program_with_row
    F_Program_with_row := F_Program_with_row
    b_Program_with_row := F_Program_with_row.binds (ps := ["self", "path", "row"]) fun _ _ _ _ _ _ us hl => match us, hl with | [_, _, _], _ => rfl
    a_names_of := He.fAd K ("names_of", none)
    d_names_of := d_names_of
    F_names_of := F_names_of
    b_names_of := F_names_of.binds (ps := ["pairs"]) fun _ _ _ _ _ _ us hl => match us, hl with | [_], _ => rfl
    m_names_of := He.glo_ok X G (c.t.d.fact 17 (f := .glo "names_of") rfl)
    a_check_parts := He.fAd K ("check_parts", none)
    d_check_parts := d_check_parts
    F_check_parts := F_check_parts
    b_check_parts := F_check_parts.binds (ps := ["words", "sources", "derived", "effects"]) fun _ _ _ _ _ _ us hl => match us, hl with | [_, _, _, _], _ => rfl
    m_check_parts := He.glo_ok X G (c.t.d.fact 18 (f := .glo "check_parts") rfl)
    a_check_bodies := He.fAd K ("check_bodies", none)
    d_check_bodies := d_check_bodies
    F_check_bodies := F_check_bodies
    b_check_bodies := F_check_bodies.binds (ps := ["words", "sources", "derived", "effects"]) fun _ _ _ _ _ _ us hl => match us, hl with | [_, _, _, _], _ => rfl
    m_check_bodies := He.glo_ok X G (c.t.d.fact 19 (f := .glo "check_bodies") rfl)
    a_check_body := He.fAd K ("check_body", none)
    d_check_body := d_check_body
    F_check_body := F_check_body
    b_check_body := F_check_body.binds (ps := ["rows", "scope", "index"]) fun _ _ _ _ _ _ us hl => match us, hl with | [_, _, _], _ => rfl
    m_check_body := He.glo_ok X G (c.t.d.fact 20 (f := .glo "check_body") rfl)
    a_Rule_init := He.fAd K ("Rule", some "__init__")
    d_Rule_init := d_Rule_init
    F_Rule_init := F_Rule_init
    b_Rule_init := F_Rule_init.binds (ps := ["self", "mode", "cut", "inner"]) fun _ _ _ _ _ _ us hl => match us, hl with | [_, _, _, _], _ => rfl
    a_Rule_eq := He.fAd K ("Rule", some "__eq__")
    d_Rule_eq := d_Rule_eq
    F_Rule_eq := F_Rule_eq
    b_Rule_eq := F_Rule_eq.binds (ps := ["self", "other"]) fun _ _ _ _ _ _ us hl => match us, hl with | [_, _], _ => rfl
    a_all_rules := He.fAd K ("all_rules", none)
    d_all_rules := d_all_rules
    F_all_rules := F_all_rules
    b_all_rules := F_all_rules.binds (ps := []) fun _ _ _ _ _ _ us hl => match us, hl with | [], _ => rfl
    m_all_rules := He.glo_ok X G (c.t.d.fact 21 (f := .glo "all_rules") rfl)
    a__law_state := He.fAd K ("_law_state", none)
    d__law_state := d_law_state
    F__law_state := F_law_state
    b__law_state := F_law_state.binds (ps := ["_law_script"]) fun _ _ _ _ _ _ us hl => match us, hl with | [_], _ => rfl
    m__law_state := He.glo_ok X G (c.t.d.fact 22 (f := .glo "_law_state") rfl)
    a__law_draw := He.fAd K ("_law_draw", none)
    d__law_draw := d_law_draw
    F__law_draw := F_law_draw
    b__law_draw := F_law_draw.binds (ps := ["_law_state_here", "_law_many_here"]) fun _ _ _ _ _ _ us hl => match us, hl with | [_, _], _ => rfl
    m__law_draw := He.glo_ok X G (c.t.d.fact 23 (f := .glo "_law_draw") rfl)
    a__law_names := He.fAd K ("_law_names", none)
    d__law_names := d_law_names
    F__law_names := F_law_names
    b__law_names := F_law_names.binds (ps := ["_law_state_here", "_law_many_here"]) fun _ _ _ _ _ _ us hl => match us, hl with | [_, _], _ => rfl
    m__law_names := He.glo_ok X G (c.t.d.fact 24 (f := .glo "_law_names") rfl)
    a__law_many := He.fAd K ("_law_many", none)
    d__law_many := d_law_many
    F__law_many := F_law_many
    b__law_many := F_law_many.binds (ps := ["_law_rows_here"]) fun _ _ _ _ _ _ us hl => match us, hl with | [_], _ => rfl
    m__law_many := He.glo_ok X G (c.t.d.fact 25 (f := .glo "_law_many") rfl)
    a__law_row := He.fAd K ("_law_row", none)
    d__law_row := d_law_row
    F__law_row := F_law_row
    b__law_row := F_law_row.binds (ps := ["_law_state_here", "_law_shape"]) fun _ _ _ _ _ _ us hl => match us, hl with | [_, _], _ => rfl
    m__law_row := He.glo_ok X G (c.t.d.fact 26 (f := .glo "_law_row") rfl)
    a__law_rows := He.fAd K ("_law_rows", none)
    d__law_rows := d_law_rows
    F__law_rows := F_law_rows
    b__law_rows := F_law_rows.binds (ps := ["_law_state_here", "_law_shape", "_law_depth", "_law_room"]) fun _ _ _ _ _ _ us hl => match us, hl with | [_, _, _, _], _ => rfl
    m__law_rows := He.glo_ok X G (c.t.d.fact 27 (f := .glo "_law_rows") rfl)
    a__law_parts := He.fAd K ("_law_parts", none)
    d__law_parts := d_law_parts
    F__law_parts := F_law_parts
    b__law_parts := F_law_parts.binds (ps := ["_law_state_here", "_law_sizes", "_law_peeks", "_law_writes"]) fun _ _ _ _ _ _ us hl => match us, hl with | [_, _, _, _], _ => rfl
    m__law_parts := He.glo_ok X G (c.t.d.fact 28 (f := .glo "_law_parts") rfl)
    a__law_deed := He.fAd K ("_law_deed", none)
    d__law_deed := d_law_deed
    F__law_deed := F_law_deed
    b__law_deed := F_law_deed.binds (ps := ["_law_state_here", "_law_parts_here"]) fun _ _ _ _ _ _ us hl => match us, hl with | [_, _], _ => rfl
    m__law_deed := He.glo_ok X G (c.t.d.fact 29 (f := .glo "_law_deed") rfl)
    a__law_listed := He.fAd K ("_law_listed", none)
    d__law_listed := d_law_listed
    F__law_listed := F_law_listed
    b__law_listed := F_law_listed.binds (ps := ["_law_parts_here", "_law_both"]) fun _ _ _ _ _ _ us hl => match us, hl with | [_, _], _ => rfl
    m__law_listed := He.glo_ok X G (c.t.d.fact 30 (f := .glo "_law_listed") rfl)
    a__law_bad := He.fAd K ("_law_bad", none)
    d__law_bad := d_law_bad
    F__law_bad := F_law_bad
    b__law_bad := F_law_bad.binds (ps := ["_law_state_here", "_law_parts_here", "_law_deed_here"]) fun _ _ _ _ _ _ us hl => match us, hl with | [_, _, _], _ => rfl
    m__law_bad := He.glo_ok X G (c.t.d.fact 31 (f := .glo "_law_bad") rfl)
    a__law_pair := He.fAd K ("_law_pair", none)
    d__law_pair := d_law_pair
    F__law_pair := F_law_pair
    b__law_pair := F_law_pair.binds (ps := ["_law_parts_here", "_law_value"]) fun _ _ _ _ _ _ us hl => match us, hl with | [_, _], _ => rfl
    m__law_pair := He.glo_ok X G (c.t.d.fact 32 (f := .glo "_law_pair") rfl)
    a__law_good := He.fAd K ("_law_good", none)
    d__law_good := d_law_good
    F__law_good := F_law_good
    b__law_good := F_law_good.binds (ps := ["_law_parts_here", "_law_value"]) fun _ _ _ _ _ _ us hl => match us, hl with | [_, _], _ => rfl
    m__law_good := He.glo_ok X G (c.t.d.fact 33 (f := .glo "_law_good") rfl)
    a__law_rule := He.fAd K ("_law_rule", none)
    d__law_rule := d_law_rule
    F__law_rule := F_law_rule
    b__law_rule := F_law_rule.binds (ps := ["_law_state_here"]) fun _ _ _ _ _ _ us hl => match us, hl with | [_], _ => rfl
    m__law_rule := He.glo_ok X G (c.t.d.fact 34 (f := .glo "_law_rule") rfl)
    a__law_made := He.fAd K ("_law_made", none)
    d__law_made := d_law_made
    F__law_made := F_law_made
    b__law_made := F_law_made.binds (ps := ["_law_parts_here"]) fun _ _ _ _ _ _ us hl => match us, hl with | [_], _ => rfl
    m__law_made := He.glo_ok X G (c.t.d.fact 35 (f := .glo "_law_made") rfl)
    a__law_fault := He.fAd K ("_law_fault", none)
    d__law_fault := d_law_fault
    F__law_fault := F_law_fault
    b__law_fault := F_law_fault.binds (ps := ["_law_parts_here"]) fun _ _ _ _ _ _ us hl => match us, hl with | [_], _ => rfl
    m__law_fault := He.glo_ok X G (c.t.d.fact 36 (f := .glo "_law_fault") rfl)
    a__law_first_part := He.fAd K ("_law_first_part", none)
    d__law_first_part := d_law_first_part
    F__law_first_part := F_law_first_part
    b__law_first_part := F_law_first_part.binds (ps := ["_law_script"]) fun _ _ _ _ _ _ us hl => match us, hl with | [_], _ => rfl
    m__law_first_part := He.glo_ok X G (c.t.d.fact 37 (f := .glo "_law_first_part") rfl)
    a__law_second_part := He.fAd K ("_law_second_part", none)
    d__law_second_part := d_law_second_part
    F__law_second_part := F_law_second_part
    b__law_second_part := F_law_second_part.binds (ps := ["_law_script"]) fun _ _ _ _ _ _ us hl => match us, hl with | [_], _ => rfl
    m__law_second_part := He.glo_ok X G (c.t.d.fact 38 (f := .glo "_law_second_part") rfl)
    a_law := He.fAd K ("law", none)
    d_law := d_law
    F_law := F_law
    b_law := F_law.binds (ps := ["_law_script"]) fun _ _ _ _ _ _ us hl => match us, hl with | [_], _ => rfl
    m_law := He.glo_ok X G (c.t.d.fact 39 (f := .glo "law") rfl)
    c_ToldError := He.ga K "ToldError"
    m_ToldError := He.glo_ok X G (c.t.d.fact 65 (f := .glo "ToldError") rfl)
    c_InvalidProgram := He.ga K "InvalidProgram"
    m_InvalidProgram := He.glo_ok X G (c.t.d.fact 66 (f := .glo "InvalidProgram") rfl)
    c_InvalidRule := He.ga K "InvalidRule"
    m_InvalidRule := He.glo_ok X G (c.t.d.fact 67 (f := .glo "InvalidRule") rfl)
    x_InvalidRule := E_InvalidRule.1
    xi_InvalidRule := E_InvalidRule.2.1
    xt_InvalidRule := E_InvalidRule.2.2.1
    n_InvalidRule_part := E_InvalidRule.2.2.2.1
    xa_InvalidRule := E_InvalidRule.2.2.2.2.ga
    xg_InvalidRule := E_InvalidRule.2.2.2.2.gg
    xh_InvalidRule := E_InvalidRule.2.2.2.2.hdC
    xe_InvalidRule := He.exm_ok (c.t.d.fact 68 (f := .exm "InvalidRule" "InvalidRule" true) rfl)
    c_InvalidStart := He.ga K "InvalidStart"
    m_InvalidStart := He.glo_ok X G (c.t.d.fact 69 (f := .glo "InvalidStart") rfl)
    c_UnknownCell := He.ga K "UnknownCell"
    m_UnknownCell := He.glo_ok X G (c.t.d.fact 70 (f := .glo "UnknownCell") rfl)
    c_Scope := He.ga K "Scope"
    m_Scope := He.glo_ok X G (c.t.d.fact 71 (f := .glo "Scope") rfl)
    l_Scope := He.cls_ok (c.t.d.fact 72 (f := .cls "Scope") rfl)
    k_Scope := He.mkr_ok (c.t.d.fact 73 (f := .mkr "Scope") rfl)
    n_Scope_kind := He.noat_ok (c.t.d.fact 74 (f := .noat "Scope" "kind") rfl)
    n_Scope_words := He.noat_ok (c.t.d.fact 75 (f := .noat "Scope" "words") rfl)
    n_Scope_sources := He.noat_ok (c.t.d.fact 76 (f := .noat "Scope" "sources") rfl)
    n_Scope_readable := He.noat_ok (c.t.d.fact 77 (f := .noat "Scope" "readable") rfl)
    c_Program := He.ga K "Program"
    m_Program := He.glo_ok X G (c.t.d.fact 78 (f := .glo "Program") rfl)
    l_Program := He.cls_ok (c.t.d.fact 79 (f := .cls "Program") rfl)
    k_Program := He.mkr_ok (c.t.d.fact 80 (f := .mkr "Program") rfl)
    n_Program_words := He.noat_ok (c.t.d.fact 81 (f := .noat "Program" "words") rfl)
    n_Program_sources := He.noat_ok (c.t.d.fact 82 (f := .noat "Program" "sources") rfl)
    n_Program_derived := He.noat_ok (c.t.d.fact 83 (f := .noat "Program" "derived") rfl)
    n_Program_effects := He.noat_ok (c.t.d.fact 84 (f := .noat "Program" "effects") rfl)
    n_Program__derived_names := He.noat_ok (c.t.d.fact 85 (f := .noat "Program" "_derived_names") rfl)
    n_Program__effect_names := He.noat_ok (c.t.d.fact 86 (f := .noat "Program" "_effect_names") rfl)
    t_Program_cells := He.meth_ok (c.t.d.fact 87 (f := .meth "Program" "cells") rfl)
    t_Program_derived_names := He.meth_ok (c.t.d.fact 88 (f := .meth "Program" "derived_names") rfl)
    t_Program_effect_names := He.meth_ok (c.t.d.fact 89 (f := .meth "Program" "effect_names") rfl)
    t_Program_body := He.meth_ok (c.t.d.fact 90 (f := .meth "Program" "body") rfl)
    t_Program_row_paths := He.meth_ok (c.t.d.fact 91 (f := .meth "Program" "row_paths") rfl)
    t_Program_row_at := He.meth_ok (c.t.d.fact 92 (f := .meth "Program" "row_at") rfl)
    t_Program_with_row := He.meth_ok (c.t.d.fact 93 (f := .meth "Program" "with_row") rfl)
    c_Rule := He.ga K "Rule"
    m_Rule := He.glo_ok X G (c.t.d.fact 94 (f := .glo "Rule") rfl)
    l_Rule := He.cls_ok (c.t.d.fact 95 (f := .cls "Rule") rfl)
    k_Rule := He.mkr_ok (c.t.d.fact 96 (f := .mkr "Rule") rfl)
    n_Rule_mode := He.noat_ok (c.t.d.fact 97 (f := .noat "Rule" "mode") rfl)
    n_Rule_cut := He.noat_ok (c.t.d.fact 98 (f := .noat "Rule" "cut") rfl)
    n_Rule_inner := He.noat_ok (c.t.d.fact 99 (f := .noat "Rule" "inner") rfl)
    i_Rule := ownB_ok (He.cls_ok (c.t.d.fact 95 (f := .cls "Rule") rfl)) f_own
    a_MODES := He.ga K "MODES"
    c_MODES := He.glo_ok X G (c.t.d.fact 100 (f := .glo "MODES") rfl)
    w_MODES := fun H => tupB_ok f_mod H
    a_INNERS := He.ga K "INNERS"
    c_INNERS := He.glo_ok X G (c.t.d.fact 101 (f := .glo "INNERS") rfl)
    w_INNERS := fun H => tupB_ok f_inn H
    a_DERIVED_FORMS := He.ga K "DERIVED_FORMS"
    c_DERIVED_FORMS := He.glo_ok X G (c.t.d.fact 102 (f := .glo "DERIVED_FORMS") rfl)
    w_DERIVED_FORMS := ⟨es_DERIVED_FORMS, n_DERIVED_FORMS, L_DERIVED_FORMS, Y_DERIVED_FORMS, S_DERIVED_FORMS⟩
    w_DERIVED_FORMS_read := kdct_of L_DERIVED_FORMS Y_DERIVED_FORMS (V_DERIVED_FORMS ("read", He.Dv.glo "is_read_row") (by simp))
    w_DERIVED_FORMS_put := kdct_of L_DERIVED_FORMS Y_DERIVED_FORMS (V_DERIVED_FORMS ("put", He.Dv.glo "is_put_row") (by simp))
    w_DERIVED_FORMS_if := kdct_of L_DERIVED_FORMS Y_DERIVED_FORMS (V_DERIVED_FORMS ("if", He.Dv.glo "is_if_row") (by simp))
    w_DERIVED_FORMS_give := kdct_of L_DERIVED_FORMS Y_DERIVED_FORMS (V_DERIVED_FORMS ("give", He.Dv.glo "is_slot_row") (by simp))
    a_EFFECT_FORMS := He.ga K "EFFECT_FORMS"
    c_EFFECT_FORMS := He.glo_ok X G (c.t.d.fact 103 (f := .glo "EFFECT_FORMS") rfl)
    w_EFFECT_FORMS := ⟨es_EFFECT_FORMS, n_EFFECT_FORMS, L_EFFECT_FORMS, Y_EFFECT_FORMS, S_EFFECT_FORMS⟩
    w_EFFECT_FORMS_read := kdct_of L_EFFECT_FORMS Y_EFFECT_FORMS (V_EFFECT_FORMS ("read", He.Dv.glo "is_read_row") (by simp))
    w_EFFECT_FORMS_peek := kdct_of L_EFFECT_FORMS Y_EFFECT_FORMS (V_EFFECT_FORMS ("peek", He.Dv.glo "is_read_row") (by simp))
    w_EFFECT_FORMS_put := kdct_of L_EFFECT_FORMS Y_EFFECT_FORMS (V_EFFECT_FORMS ("put", He.Dv.glo "is_put_row") (by simp))
    w_EFFECT_FORMS_if := kdct_of L_EFFECT_FORMS Y_EFFECT_FORMS (V_EFFECT_FORMS ("if", He.Dv.glo "is_if_row") (by simp))
    w_EFFECT_FORMS_write := kdct_of L_EFFECT_FORMS Y_EFFECT_FORMS (V_EFFECT_FORMS ("write", He.Dv.glo "is_write_row") (by simp))
    w_EFFECT_FORMS_say := kdct_of L_EFFECT_FORMS Y_EFFECT_FORMS (V_EFFECT_FORMS ("say", He.Dv.glo "is_slot_row") (by simp))
    xc_InvalidRule := askB_ok f_ask
    xk_ToldError := of_decide_eq_true f_told
    xk_InvalidStart := of_decide_eq_true f_start
    xq_Rule := He.eqO_ok f_eq
    xf_Rule := f_fn
  }, fun s u => law_binds (ps := ["_law_script"]) F_law (fun _ _ _ _ _ _ us hl => match us, hl with | [_], _ => rfl) s [u] rfl⟩
abbrev R : PySem.W.OpenRow := PySem.W.OpenLaw.row PySem.Challenge.rw_toldonward_k09_deeds
def as_ : List Addr := [3, 31, 30, 51, 50, 70, 69, 89, 88, 108, 107, 176, 175, 318, 317, 374, 373, 216, 217, 349, 350, 136, 132, 48, 47, 67, 66, 86, 85, 105, 104, 117, 116, 124, 123, 131, 130, 137, 142, 141, 147, 146, 152, 151, 159, 158, 173, 172, 187, 186, 194, 193, 201, 200, 208, 207, 215, 214, 224, 223, 231, 230, 238, 237, 245, 244, 259, 258, 266, 265, 273, 272, 280, 279, 287, 286, 294, 293, 301, 300, 308, 307, 315, 314, 327, 326, 334, 333, 341, 340, 348, 347, 364, 363, 371, 370, 383, 382, 390, 389, 397, 396, 404, 403, 411, 410, 418, 417, 425, 424, 432, 431, 437, 436, 442, 441, 449, 448, 456, 455, 461, 460, 468, 467, 475, 474, 482, 481, 489, 488, 494, 493, 501, 500]
abbrev hk : PySem.W.Hook := hookV as_ fa fn ts us ex
def ob (s : PySem.W.SharedT) : AlU := obsV as_ fa fn ts us ex (HandSHeadRun.getT s)
theorem ob_eq (s : PySem.W.SharedT) : ob s = hk.obs s.abs := obsV_eq (HandSHeadRun.getT_eq s)
def loose0 : List Str := ["_wall", "ToldError", "InvalidProgram", "InvalidRule", "InvalidStart", "UnknownCell", "is_deed", "is_write", "is_batch", "deeds", "pairs_of_writes", "LONGEST_NAME", "is_name", "are_names", "are_named_pairs", "MOST_ROWS", "DEEPEST_IF", "Scope", "is_read_row", "is_put_row", "is_if_row", "is_slot_row", "is_write_row", "DERIVED_FORMS", "EFFECT_FORMS", "check_of", "is_valid_row", "first_wrong_path", "paths_of_rows", "LEAST_WORDS"]
def loose1 : List Str := ["MOST_WORDS", "LEAST_SOURCES", "MOST_SOURCES", "MOST_DERIVED", "MOST_EFFECTS", "Program", "names_of", "check_parts", "check_bodies", "check_body", "MODES", "INNERS", "Rule", "all_rules", "_law_state", "_law_draw", "_law_names", "_law_many", "_law_row", "_law_rows", "_law_parts", "_law_deed", "_law_listed", "_law_bad", "_law_pair", "_law_good", "_law_rule", "_law_made", "_law_fault", "_law_first_part"]
def loose2 : List Str := ["_law_second_part"]
def loose : List Str := loose0 ++ (loose1 ++ (loose2))
end K09
namespace K09
open PySem PySem.Spec PyProof.Rows L2 Td
abbrev RunOk (w : World) : Prop := HandSHeadRun.RunEq R (PySem.W.view R.prog [68]) hk ob 8000 loose w
theorem run_f (w : World) : RunOk (w.withFollow "special-get-raises" false) := by
  intro os
  kernel_rfl
theorem run_t (w : World) : RunOk (w.withFollow "special-get-raises" true) := by
  intro os
  kernel_rfl
theorem run (w : World) : HandSHeadRun.RunEq R (PySem.W.view R.prog [68]) hk ob 8000 loose w := PySem.W.byRow2 "special-get-raises" (P := RunOk) run_f run_t w
end K09
open PySem PySem.W PySem.Calls PyProof.Rows
set_option maxRecDepth 100000 in
set_option maxHeartbeats 0 in
theorem PySem.Challenge.cw_toldonward_k09_deeds_holds : PySem.Challenge.rw_toldonward_k09_deeds.Holds := by
  w_on; o_law
  refine HandSHeadRun.head_any (r := OpenLaw.row PySem.Challenge.rw_toldonward_k09_deeds) (q := view (OpenLaw.row PySem.Challenge.rw_toldonward_k09_deeds).prog [68]) (H := K09.hk) (ob := K09.ob) (M := 8000) (loose := K09.loose) (d := HandSHeadRun.topDef (OpenLaw.row PySem.Challenge.rw_toldonward_k09_deeds).prog 68) (kwd := []) K09.ob_eq
    (by kernel_rfl) (fun s => by kernel_rfl) K09.run (by kernel_rfl) (by kernel_rfl) (by kernel_rfl) (by rfl) (by first | assumption | decide +kernel) (by decide +kernel) ⟨rfl, rfl, rfl, rfl, rfl, by decide +kernel⟩ ?hw ?hc
  case hw => w_witness2
  case hc =>
    refine L2.walk_ofE (l := PySem.Challenge.rw_toldonward_k09_deeds) (n := 63) (k := 13) (x := "_law_script") (CX := L2.CX0) rfl (by decide) (by kernel_rfl) ⟨rfl, by decide, by decide⟩ ?F (fun _ _ _ _ z => z)
    intro w mg fa h Y G hmg0
    obtain ⟨K, KX, c⟩ := Y
    have hmg : mg ("law" : PySem.Str) = some (.ref fa) := by
      have e : (HandSHeadRun.topDef (OpenLaw.row PySem.Challenge.rw_toldonward_k09_deeds).prog 68).name = ("law" : PySem.Str) := by kernel_rfl
      rw [← e]
      exact hmg0
    obtain ⟨T, hb⟩ := K09.tops KX G c
    have e := hmg.symm.trans T.m_law
    cases e
    exact ⟨K, T.d_law, K09.spLaw K, KX, hb, fun H a ns hl _ hS => ⟨a, ns, rfl, hS, hl, fun _ => rfl⟩, fun base _ _ => K09.law_of T⟩
