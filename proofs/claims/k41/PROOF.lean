import PyProof.Rows.All
import Wide.All
import OpenK.AllK
import Wide.FinOn
import HandS.ForMost
import HandS.ForExc
import HandS.SetKeys
import HandS.Strs
import HandS.Set
import HandS.More
import HandS.Wide
import HandS.IsInst
import HandS.ExcInit
import HandS.CallLocal
import HandS.TupAny
import HandS.Codes
import KE.GoesEnum
import HandS.WrittenGet
import HandS.Nested
import HandS.HeadWalk
import KE.KSuper
import HandS.ExcField
import HandS.TryMany
import KE.KDictZip
import KE.GoesMore
import HandS.Zip
import HandS.ListItems
import HandS.List
import HandS.StrMore
import KE.KRevSl
import HandS.Text
import HandS.Conv
import PyProof.CollectWalk
import KE.KItemsList
import KE.KDictDisplayH
import HandS.DictComp
import HandS.Iter
import HandS.Replace
import HandS.ReplaceLit
import HandS.DeepEq
import PyProof.EqLayable
import HandS.HeadHook4
import HandS.HeadEnd
import HandS.Head2
import PyProof.StrLawsIn
import PySem.Challenge.RW_toldonward_k41_deed_texts
set_option Elab.async false
set_option maxRecDepth 100000
set_option maxHeartbeats 0
set_option linter.all false
/-! Own rules beside the hand layer: for any program. -/
namespace TdSet
open PySem PySem.Spec PyProof.Rows SS
/-- how many different ones stand among the first i -/
def dcnt (xs : List Str) : Nat → Nat
  | 0 => 0
  | i + 1 => if (xs.take i).any (· == xs.getD i Str.empty) = true then dcnt xs i else dcnt xs i + 1
theorem dcnt_le (xs : List Str) : ∀ i, dcnt xs i ≤ i
  | 0 => Nat.le_refl _
  | i + 1 => by
    have := dcnt_le xs i
    unfold dcnt
    split <;> omega
theorem dcnt_full {xs : List Str} : ∀ {i : Nat}, i ≤ xs.length → dcnt xs i = i → (xs.take i).Nodup
  | 0, _, _ => by simp
  | i + 1, hi, h => by
    have hl := dcnt_le xs i
    unfold dcnt at h
    split at h
    · omega
    · rename_i hn
      have ih := dcnt_full (xs := xs) (i := i) (by omega) (by omega)
      have hx : i < xs.length := by omega
      rw [List.take_succ_eq_append_getElem hx]
      refine List.nodup_append.mpr ⟨ih, by simp, ?_⟩
      intro a ha b hb hab
      have e : b = xs[i] := by simpa using hb
      apply hn
      refine List.any_eq_true.mpr ⟨a, ha, ?_⟩
      rw [hab, e, List.getD_eq_getElem?_getD, List.getElem?_eq_getElem hx]
      simp
theorem dcnt_nodup {xs : List Str} : ∀ {i : Nat}, i ≤ xs.length → (xs.take i).Nodup → dcnt xs i = i
  | 0, _, _ => rfl
  | i + 1, hi, h => by
    have hx : i < xs.length := by omega
    rw [List.take_succ_eq_append_getElem hx] at h
    obtain ⟨h1, _, h3⟩ := List.nodup_append.mp h
    have ih := dcnt_nodup (xs := xs) (i := i) (by omega) h1
    unfold dcnt
    rw [if_neg, ih]
    intro hh
    obtain ⟨a, ha, hb⟩ := List.any_eq_true.mp hh
    rw [List.getD_eq_getElem?_getD, List.getElem?_eq_getElem hx] at hb
    exact h3 a ha xs[i] (by simp) (by simpa using hb)
/-- the set at S has met the first i texts -/
def Met (prog : Program) (w : World) (S : Addr) (xs : List Str) (i : Nat) (h : Heap) : Prop := h.SetOf (PySem.strKind prog w) S (fun z => (xs.take i).any (· == z)) (dcnt xs i)
theorem Met.move {prog : Program} {w : World} {S : Addr} {xs : List Str} {i : Nat} {h h' : Heap} (m : Met prog w S xs i h) (k : ∀ o, h.get? S = some o → h'.get? S = some o) : Met prog w S xs i h' := by
  obtain ⟨o, es, ep, tb, e, r⟩ := m
  exact ⟨o, es, ep, tb, k o e, r⟩
/-- one text more -/
theorem Met.more {prog : Program} {w : World} {S : Addr} {xs : List Str} {i : Nat} {h : Heap} {z : Str} (hz : xs[i]? = some z)
    (m : h.SetOf (PySem.strKind prog w) S (fun y => (xs.take i).any (· == y) || decide (y = z)) (if (xs.take i).any (· == z) = true then dcnt xs i else dcnt xs i + 1)) : Met prog w S xs (i + 1) h := by
  have e : xs.take (i + 1) = xs.take i ++ [z] := by rw [List.take_add_one, hz]; rfl
  refine SetOf_congr m (fun y => ?_) ?_
  · rw [e, List.any_append]
    congr 1
    by_cases q : y = z
    · rw [q]; simp
    · have : ¬ z = y := fun h => q h.symm
      simp [q, this]
  · show _ = (if (xs.take i).any (· == xs.getD i Str.empty) = true then dcnt xs i else dcnt xs i + 1)
    rw [List.getD_eq_getElem?_getD, hz]
    rfl
section
variable {prog : Program} {w : World} {A : Around} {R : Result → Shared → Prop} {I S : Addr} {fp wr : List Addr} {G : Array GenState → Array GenState → Prop} {i : Nat} {P : Nat → Value → Prop} {St : Nat → Shared → Prop} {xs : List Str} {s : Shared}
/-- an iterator whose item i is the text i of xs -/
structure Turns (prog : Program) (w : World) (A : Around) (I : Addr) (fp wr : List Addr) (G : Array GenState → Array GenState → Prop) (xs : List Str) (P : Nat → Value → Prop) (St : Nat → Shared → Prop) : Prop where
  walks : WalksS prog w A I fp wr G xs.length P St
  texts : ∀ i v, P i v → ∃ z t, xs[i]? = some z ∧ v = .str z t
/-- the loop's code, one round of it -/
theorem round_of (h : wpAny (model prog w) A.in1 (Builtin.«set.update.loop» ⟨[.ref S, .ref I], []⟩) (fun fin s' => match fin with | .done f => R (.ok f) s' | .again c => c.quiet = true ∧ codeAny (model prog w) A c R s') (fun e s' => R (.error e) s') s) :
    codeAny (model prog w) A (.builtin "set.update.loop" ⟨[.ref S, .ref I], []⟩) R s :=
  codeAny_builtin PyProof.Rows.F.entry_set_update_loop (by rw [Around.under_plainId PyProof.Rows.F.plain_set_update_loop _]; exact h)
theorem last_round (W : Turns prog w A.in1 I fp wr G xs P St) (ns : S ∉ wr) (hst : St xs.length s) (hS : Met prog w S xs xs.length s.heap)
    (fin : ∀ s', Moved wr G s s' → Met prog w S xs xs.length s'.heap → R (.ok (.ret .none)) s') : codeAny (model prog w) A (.builtin "set.update.loop" ⟨[.ref S, .ref I], []⟩) R s :=
  round_of (wpAny_bind (W.walks.done s _ _ hst fun s' hm => wpAny_pure (fin s' hm (hS.move fun o e => hm.heap S o ns e))))
theorem next_round (W : Turns prog w A.in1 I fp wr G xs P St) (hf : S ∉ fp) (hn : xs.length < 4000) (hi : i < xs.length) (hst : St i s) (hS : Met prog w S xs i s.heap)
    (go : ∀ s', St (i + 1) s' → Met prog w S xs (i + 1) s'.heap → Moved (S :: wr) G s s' → codeAny (model prog w) A (.builtin "set.update.loop" ⟨[.ref S, .ref I], []⟩) R s') :
    codeAny (model prog w) A (.builtin "set.update.loop" ⟨[.ref S, .ref I], []⟩) R s := by
  refine round_of (wpAny_bind (W.walks.item i s _ _ hi hst fun v s1 hv st1 m1 => ?_))
  obtain ⟨z, t, hz, rfl⟩ := W.texts i v hv
  have hd := dcnt_le xs i
  have S1 := hS.move fun o e => m1.heap S o (fun h => hf (W.walks.sub _ h)) e
  refine wpAny_bind (wpAny_holding (wpAny_holding (wpAny_bind ((PySem.strKind prog w).pyHash (k := z) (strKind_is _ _ _ _) (wpAny_setAddHashed_of (knd := PySem.strKind prog w) (s := { s1 with toks := s1.toks + 1 }) (strKind_is _ _ _ _) rfl S1 (by unfold scanBound; omega) fun h2 sb S2 => ?_)))))
  have keep : ∀ b o, b ≠ S → s1.heap.get? b = some o → h2.get? b = some o := fun b o nb e => by rw [sb.2 b nb]; exact e
  refine wpAny_pure ⟨plainId_quiet PyProof.Rows.F.plain_set_update_loop _, go _ (W.walks.frame _ s1 _ _ st1 (Nat.le_succ _) fun b hb o e => keep b o (fun q => hf (q ▸ hb)) e) (Met.more hz S2) ?_⟩
  exact (m1.mono fun b hb => List.mem_cons_of_mem _ hb).then_heap (Nat.le_succ _) fun b o hb e => keep b o (fun q => hb (q ▸ List.mem_cons_self)) e
theorem rounds (W : Turns prog w A.in1 I fp wr G xs P St) (hf : S ∉ fp) (hn : xs.length < 4000) : ∀ (left i : Nat) (s : Shared), i + left = xs.length → St i s → Met prog w S xs i s.heap →
    (∀ s', Moved (S :: wr) G s s' → Met prog w S xs xs.length s'.heap → R (.ok (.ret .none)) s') → codeAny (model prog w) A (.builtin "set.update.loop" ⟨[.ref S, .ref I], []⟩) R s
  | 0, i, s, e, st, m, fin => by
    have e : i = xs.length := e
    subst e
    exact last_round W (fun h => hf (W.walks.sub _ h)) st m fun s' mv m' => fin s' (mv.mono fun b hb => List.mem_cons_of_mem _ hb) m'
  | left + 1, i, s, e, st, m, fin =>
    next_round W hf hn (by omega) st m fun s1 st1 m1 mv1 => rounds W hf hn left (i + 1) s1 (by omega) st1 m1 fun s2 mv2 m2 => fin s2 (Moved.trans W.walks.gtrans mv1 mv2) m2
end
section
variable {prog : Program} {w : World} {A : Around} {E : Value → Shared → Prop} {s : Shared}
/-- the new set's own beginning: it takes the tuple's texts -/
theorem init_texts {R : Result → Shared → Prop} {S l : Addr} {o : Obj} {items : Array Value} {xs : List Str} {led : Bool} (hh : A.handled = none) (hS : s.heap.get? S = some { cls := .type "set", dict := none, data := .set #[] 0 (.fresh 0 0 led) })
    (ho : s.heap.get? l = some o) (hc : o.cls = .type "tuple") (hd : ∃ nl, o.data = .seq items nl) (hne : l ≠ S) (hi : PyProof.Rows.StrsAre items.toList xs) (hn : xs.length < 4000)
    (fin : ∀ (h' : Heap) (tk : Nat), Met prog w S xs xs.length h' → (∀ b u, b ≠ S → s.heap.get? b = some u → h'.get? b = some u) → R (.ok (.ret .none)) { s with heap := h', toks := tk }) :
    wpAny (model prog w) A.in1 (Builtin.«set.__init__» ⟨[.ref S, .ref l], []⟩) (fun fin s' => match fin with | .done f => R (.ok f) s' | .again c => c.quiet = true ∧ codeAny (model prog w) A c R s') (fun e s' => R (.error e) s') s := by
  have ht : s.heap.IsTuple l items := let ⟨nl, e⟩ := hd; ⟨o, ho, hc, nl, e⟩
  have q1 : s.TypeIs (.ref l) "tuple" := ⟨o, ho, hc⟩
  have q2 := PySem.F.sub_tuple_set
  have q3 := PySem.F.sub_tuple_frozenset
  have q4 : (Value.type "tuple" == Value.type "dict") = false := by decide
  unfold Builtin.«set.__init__» noKeywords Builtin.Frozenset.updateFrom
  generalize ePI : pyIter = PI
  wp_walk
  subst ePI
  refine wpAny_pyIter_tuple ht (wpAny_bind (wpAny_runValue ?_))
  have sz : (s.heap.push { cls := .type "tuple_iterator", data := .fields #[.ref l, .int 0 0] }).objs.size = s.heap.objs.size + 1 := Heap.size_push ..
  have lS : S < s.heap.objs.size := Heap.lt_size hS
  have ll : l < s.heap.objs.size := Heap.lt_size ho
  have len : xs.length = items.size := by rw [← StrsAre.len_eq hi, Array.length_toList]
  have W0 := (Walks.tuple (prog := prog) (w := w) (A := A.in1.in1) (by simpa using hh) s.heap.objs.size l (Nat.ne_of_lt ll) items).toS
  rw [← len] at W0
  have nf : S ∉ [s.heap.objs.size, l] := fun m => by
    rcases List.mem_cons.mp m with e | e
    · exact absurd (e ▸ lS) (Nat.lt_irrefl _)
    · exact hne (List.mem_singleton.mp e).symm
  have M0 : Met prog w S xs 0 (s.heap.push { cls := .type "tuple_iterator", data := .fields #[.ref l, .int 0 0] }) :=
    PyProof.Rows.SetOf_congr ((PyProof.Rows.setObjOf_fresh (knd := PySem.strKind prog w) led).setOf (Heap.get?_push_of_some _ hS) (by unfold scanBound; omega)) (fun _ => rfl) rfl
  refine rounds ⟨W0, fun i v hv => ?_⟩ nf hn xs.length 0 { s with heap := s.heap.push { cls := .type "tuple_iterator", data := .fields #[.ref l, .int 0 0] } } (Nat.zero_add _) ⟨⟨_, Heap.get?_push_size _ rfl, rfl, rfl⟩, ht.push _⟩ M0 fun s2 mv m => ?_
  · obtain ⟨t, e⟩ := strs_at hi i v (by rw [Array.getElem?_toList]; exact hv)
    have hx : i < xs.length := by rw [len]; exact (Array.getElem?_eq_some_iff.mp hv).1
    exact ⟨xs[i], t, List.getElem?_eq_getElem hx, by rw [e, List.getD_eq_getElem?_getD, List.getElem?_eq_getElem hx]; rfl⟩
  · obtain ⟨h2, g2, d2, t2, o2⟩ := s2
    cases (show g2 = s.gens from mv.gens)
    cases (show d2 = s.drawn from mv.drawn)
    cases (show o2 = s.os from mv.os)
    refine wpAny_pure (wpAny_pure (fin h2 t2 m fun b u nb e => mv.heap b u (fun q => ?_) (Heap.get?_push_of_some _ e)))
    rcases List.mem_cons.mp q with q | q
    · exact nb q
    · have := Heap.lt_size e
      rw [List.mem_singleton.mp q] at this
      exact Nat.lt_irrefl _ this
end
section
variable {prog : Program} {w : World} {A : Around} {E : Value → Shared → Prop} {s : Shared}
/-- set(x), over what the new set begins with -/
theorem set_by {x : Value} {Q : Value → Shared → Prop} (go : ∀ led : Bool, wpAny (model prog w) A.in1.in1 (Builtin.«set.__init__» ⟨[.ref s.heap.objs.size, x], []⟩)
      (fun fin s' => match fin with | .done f => wants (fun r s2 => r = .none ∧ s2.TypeIs (.ref s.heap.objs.size) "set" ∧ Q (.ref s.heap.objs.size) s2) E (.ok f) s' | .again c => c.quiet = true ∧ codeAny (model prog w) A.in1 c (wants (fun r s2 => r = .none ∧ s2.TypeIs (.ref s.heap.objs.size) "set" ∧ Q (.ref s.heap.objs.size) s2) E) s')
      (fun e s' => wants (fun r s2 => r = .none ∧ s2.TypeIs (.ref s.heap.objs.size) "set" ∧ Q (.ref s.heap.objs.size) s2) E (.error e) s')
      { s with heap := s.heap.push { cls := .type "set", dict := none, data := .set #[] 0 (.fresh 0 0 led) } }) :
    wpAny (model prog w) A (call (.type "set") [x]) Q E s := by
  have k1 := PySem.F.called_set
  obtain ⟨c, tl, k2⟩ := k1.mro
  have k3 := k1.made
  have k4 := k1.sub
  have k5 := k1.notType
  have k6 := k1.canCreate
  have k7 := PySem.F.typeCall_set_1 x
  refine wpAny_call (codeAny_of_tree (wpAny_pure ⟨Code.quiet_builtin _ (by decide +kernel), codeAny_builtin PySem.F.entry_type_call ?_⟩))
  rw [Around.under_plain (weight_type_call_type "set" [x] []) rfl]
  repeat (any_goals (first | assumption | wp_step))
  refine codeAny_mono (code_set_new_1 x (E := E) (Q₁ := fun y s1 => ∃ led : Bool, y = .ref s.heap.objs.size ∧ s1 = { s with heap := s.heap.push { cls := .type "set", dict := none, data := .set #[] 0 (.fresh 0 0 led) } }) fun led => ⟨led, rfl, rfl⟩) fun r s1 hr => ?_
  match r, hr with
  | .error e, hr => exact hr
  | .ok (.ret y), hr =>
    obtain ⟨led, rfl, rfl⟩ := hr
    have k8 := k1.init.lookup
    have k9 := k1.init.bind (.ref s.heap.objs.size)
    have ty : Shared.TypeIs { s with heap := s.heap.push { cls := .type "set", dict := none, data := .set #[] 0 (.fresh 0 0 led) } } (.ref s.heap.objs.size) "set" := ⟨_, Heap.get?_push_size _ rfl, rfl⟩
    repeat (any_goals (first | assumption | wp_step))
    refine codeAny_mono (codeAny_call_builtin k1.init.plain PySem.F.entry_set_init (check_set_init_1 ty (go led))) fun r2 s2 h2 => ?_
    match r2, h2 with
    | .error e, h2 => exact h2
    | .ok (.ret y), h2 =>
      obtain ⟨rfl, ty2, q⟩ := h2
      repeat (any_goals (first | assumption | wp_step))
/-- set(t) of a tuple of texts -/
theorem set_of_texts {l : Addr} {items : Array Value} {xs : List Str} {Q : Value → Shared → Prop} (hh : A.handled = none) (hl : s.heap.IsTuple l items) (hi : PyProof.Rows.StrsAre items.toList xs) (hn : xs.length < 4000)
    (q : ∀ (h' : Heap) (tk : Nat), Met prog w s.heap.objs.size xs xs.length h' → (∀ b u, s.heap.get? b = some u → h'.get? b = some u) → Q (.ref s.heap.objs.size) { s with heap := h', toks := tk }) :
    wpAny (model prog w) A (call (.type "set") [.ref l]) Q E s := by
  obtain ⟨o, ho, hc, hd⟩ := hl
  have lt := Heap.lt_size ho
  refine set_by fun led => init_texts (A := A.in1) (by simpa using hh) (Heap.get?_push_size _ rfl) (Heap.get?_push_of_some _ ho) hc hd (Nat.ne_of_lt lt) hi hn fun h' tk m k => ⟨rfl, ?_, q h' tk m fun b u e => k b u (Nat.ne_of_lt (Heap.lt_size e)) (Heap.get?_push_of_some _ e)⟩
  exact PySem.Heap.SetOf.typeIs (s := { s with heap := h', toks := tk }) m
end
end TdSet
namespace Td
open PySem PySem.Spec PyProof.Rows L2
section
variable {X : Cx}
/-- len(set(t)), t a tuple of texts -/
def tLenSetT (K : PySem.W.Frag) (t : TE) : TE := fun σ H Q => t σ H fun x H1 => ∃ (l : Addr) (xs : List Str), x = .ref l ∧ SqT K H1 l (xs.map V.str) ∧ xs.length < 4000 ∧ Q (.int (TdSet.dcnt xs xs.length : Nat)) H1
theorem pe_lenSetT {a : Expr} {t : TE} {p p2 q pos : Pos} (hc : X.calm = true) (g1 : Gl X "len") (m1 : X.mg "len" = none) (g2 : Gl X "set") (m2 : X.mg "set" = none) (ha : PE X a t)
    (na : starEach [a] X.env = (false, eval a X.env) :: starEach [] X.env := by rfl) (no : starEach [.Call (.Name "set" p2) [a] [] q] X.env = (false, eval (.Call (.Name "set" p2) [a] [] q) X.env) :: starEach [] X.env := by rfl) :
    PE X (.Call (.Name "len" p) [.Call (.Name "set" p2) [a] [] q] [] pos) (tLenSetT X.K t) := by
  refine ⟨fun pins s σ H Q I h => wpAny_Call_Name_kw (ld_blt I g1 m1 boot_len (PyProof.Rows.callWith_builtin1 (PyProof.Rows.args_cons (wpAny_Call_Name_kw (ld_blt I g2 m2 boot_set (PyProof.Rows.callWith_type1 (PyProof.Rows.args_cons (thn (ha.run pins s σ H _ I h) fun v s1 ⟨x, H1, I1, r1, l, xs, ex, hq, hn, k⟩ => PyProof.Rows.args_nil ?_) na) na rfl))) no) no rfl))⟩
  subst ex
  cases r1
  obtain ⟨us, r, tp, _⟩ := I1.tuple hq
  refine TdSet.set_of_texts (I1.ok.hd hc) tp (xs := xs) (by simpa using strsAre_of r) hn fun h' tk m kp => PyProof.Rows.args_nil ?_
  have J : Inv X pins σ H1 { s1 with heap := h', toks := tk } := I1.kept kp
  have dl := TdSet.dcnt_le xs xs.length
  obtain ⟨o, es, ep, tb, e1, e2, e3, _, _, _, e7, e8⟩ := m
  exact call_len_set e1 e2 e3 e7 (by rw [e8]; omega) ⟨.int (TdSet.dcnt xs xs.length : Nat), H1, J.tok _, ⟨_, by rw [e8]⟩, k⟩
end
/-- xs[i] op= e on a list -/
def rGetL : V → V → Hp → VK → Prop := fun o i H Q => ∃ p xs k v, o = .ref p ∧ i = .int k ∧ H p = some (.lst xs) ∧ atI xs k = some v ∧ Q v H
end Td
namespace Td
open PySem PySem.Spec PyProof.Rows L2
section
variable {X : Cx}
/-! ### a written dict, asked by .get -/
def KTab (K : PySem.W.Frag) (w : World) (a : Addr) : Prop :=
  ∃ es n, K.lookup a = some ⟨.type "dict", none, .dict es n, #[]⟩ ∧ PySem.W.KeysLit w.params es.toList ∧ (a == sysModules) = false
def tKGet (K : PySem.W.Frag) (w : World) (td ty : TE) : TE := fun σ H Q => td σ H fun x H1 => ∃ a, x = .ref a ∧ KTab K w a ∧
  ty σ H1 fun y H2 => ∃ z, y = .str z ∧ ((∃ v, KDct K w a z v ∧ Q v H2) ∨ (PySem.W.nsIn K a z = some none ∧ Q .non H2))
theorem pe_kget {o e : Expr} {td ty : TE} {apos cpos : Pos} (ho : PE X o td) (he : PE X e ty) (m : M1 X o "get" apos e cpos) :
    PE X (.Call (.Attribute o "get" apos) [e] [] cpos) (tKGet X.K X.w td ty) := by
  refine ⟨fun pins s σ H Q I h => ?_⟩
  refine wpAny_Call_method m.base m.few m.line PySem.F.plainAttrs_dict PySem.F.slot_dict_get PySem.F.type_dict_get
    (thn (ho.run pins s σ H _ I h) fun u s1 ⟨x, H1, I1, rx, a, ex, ⟨es, n, hl, hk, low⟩, q1⟩ => ?_)
  subst ex
  obtain rfl : u = Value.ref a := rx
  have hm := PySem.W.mapOf_K (prog := X.prog) (w := X.w) I1.kIn hl hk
  refine ⟨hm.typeIs, hm.noDict, ?_⟩
  rw [m.trees]
  refine Calls.callWith_builtin rfl (Calls.evalArgs_plain (Calls.spliced_cons
    (thn (he.run pins s1 σ H1 _ I1 q1) fun iv s2 ⟨y, H2, I2, ry, z, ey, q2⟩ => Calls.spliced_nil ?_)))
  subst ey
  obtain ⟨t, rfl⟩ := ry
  have hm2 := PySem.W.mapOf_K (prog := X.prog) (w := X.w) I2.kIn hl hk
  rcases q2 with ⟨v, ⟨es', n', u0, hl', hk', e0, ru⟩, q⟩ | ⟨e0, q⟩
  · refine call_meetsIn PySem.F.slot_dict_get hm2.typeIs PySem.F.entry_dict_get (PySem.F.args_dict_get_2 _ _)
      (meets_dict_get (strKind X.prog X.w) a (strKind_is X.prog X.w z t) low) ⟨_, hm2, ?_⟩
    have := PySem.W.find_K hl e0
    rw [this]
    exact ⟨v, H2, I2.tok _, ru, q⟩
  · refine call_meetsIn PySem.F.slot_dict_get hm2.typeIs PySem.F.entry_dict_get (PySem.F.args_dict_get_2 _ _)
      (meets_dict_get (strKind X.prog X.w) a (strKind_is X.prog X.w z t) low) ⟨_, hm2, ?_⟩
    have := PySem.W.find_K hl e0
    rw [this]
    exact ⟨.non, H2, I2.tok _, rfl, q⟩

/-! ### xs[i] of a list, by values -/
def rGetLi (K : PySem.W.Frag) : V → V → Hp → VK → Prop := fun o i H Q => ∃ (p : Addr) (xs : List V) (k : Nat) (v : V), o = .ref p ∧ i = .int (k : Nat) ∧ SqL K H p xs ∧ xs[k]? = some v ∧ Q v H
theorem get_list : PGet X (rGetLi X.K) := by
  intro pins s σ H o i ov iv Q I ro ri h
  obtain ⟨p, xs, k, v, rfl, rfl, hp, hv, q⟩ := h
  obtain ⟨its, r, pl, hz⟩ := I.list hp
  obtain rfl : ov = Value.ref p := ro
  obtain ⟨t, rfl⟩ := ri
  obtain ⟨w, ew, rw'⟩ := r.get hv
  have hn := line63
  have hk := (List.getElem?_eq_some_iff.mp hv).1
  have fin : EP X pins σ Q w s := ⟨v, H, I, rw', q⟩
  exact wpAny_getItem_list pl.isList (by omega) (by omega) (by rw [Int.toNat_natCast, List.getElem?_toArray]; exact ew) fin
end
/-! ### enumerate of a tuple -/
def IteT (K : PySem.W.Frag) (a : Addr) : It :=
  ⟨fun i H => ∃ (xs : List V) (x : V), SqT K H a xs ∧ xs[i]? = some x,
   fun i H v H' => ∃ T x, v = .ref T ∧ H T = none ∧ H' = upd H T (.tup [.int (i : Nat), x]) ∧ ∀ xs, SqT K H a xs → xs[i]? = some x,
   fun i H => ∃ xs : List V, SqT K H a xs ∧ xs.length = i⟩
theorem turn_enumT {P : Program} {w : World} {K : PySem.W.Frag} {elts : List Expr} {kk : Nat} {tpos : Pos} (a e it : Addr) :
    Turn P w K (.Tuple elts kk tpos) (IteT K a) [e, it] e
      (fun i h => (∃ old, IsEnum h e it ((i : Nat) : Int) old) ∧ h.IsTupleIter it a i ∧ e ≠ it) where
  mem := by simp
  obj := fun i h st b hb => by
    obtain ⟨⟨old, he⟩, ⟨o, ho, hc, hd⟩, _⟩ := st
    have e' : b = e ∨ b = it := by simpa using hb
    rcases e' with z | z
    · subst z; exact ⟨_, he, fun v q => nomatch q⟩
    · subst z; exact ⟨o, ho, fun v q => by rw [hd] at q; cases q⟩
  keep := fun i h h' st k => by
    obtain ⟨⟨old, he⟩, hi, hne⟩ := st
    exact ⟨⟨old, k e (by simp) _ he⟩, hi.at fun o q => k it (by simp) o q, hne⟩
  item := by
    intro X hP hw hK hc i pins s σ H E I hf st hg
    subst hP hw hK
    obtain ⟨⟨old, he⟩, hit, hne⟩ := st
    obtain ⟨xs, x, hq, hx⟩ := hg
    obtain ⟨its, rv, p, hz⟩ := I.tuple hq
    obtain ⟨u, hu, ru⟩ := rv.get hx
    have hel : e < s.heap.objs.size := Heap.lt_size he
    have hil : it < s.heap.objs.size := by obtain ⟨_, q, _⟩ := hit; exact Heap.lt_size q
    have hai : a ≠ it := fun z => by
      obtain ⟨o1, g1, c1, _⟩ := hit
      obtain ⟨o2, g2, c2, _⟩ := p
      rw [z, g1] at g2
      cases g2
      rw [c1] at c2
      exact absurd c2 (by decide)
    have hae : a ≠ e := fun z => by
      obtain ⟨o2, g2, c2, _⟩ := p
      rw [z, show s.heap.get? e = some _ from he] at g2
      cases g2
      change Value.type "enumerate" = Value.type "tuple" at c2
      exact absurd c2 (by decide)
    have hh : X.A.in1.handled = none := by simp [I.ok.hd hc]
    have D := Draws.tuple (prog := X.prog) (w := X.w) hh it a hai its.toArray
    have hlt : i < its.toArray.size := by
      rw [List.size_toArray, ← rv.length]
      exact (List.getElem?_eq_some_iff.mp hx).1
    refine wpAny_pyNext_enum_itemD D he ⟨hit, p⟩ hlt hne (by simp [hne, Ne.symm hae]) fun y h' tk hy ho hit' hT hsz hk => ?_
    have hyu : y = u := by
      have : its.toArray[i]? = some y := hy
      rw [List.getElem?_toArray, hu] at this
      exact (Option.some.inj this).symm
    subst hyu
    refine ⟨_, rfl, wpAny_letOwnedTupleGo_enum (s := { s with heap := h', toks := tk + 1 }) ho fun h2 he2 sb => ?_⟩
    have hT2 : h2.get? s.heap.objs.size = some { cls := .type "tuple", data := .seq #[.int i tk, y] } :=
      (sb.2 _ (Nat.ne_of_gt hel)).trans hT
    have new : ObjOk X.prog X.w (upd H s.heap.objs.size (.tup [.int (i : Nat), x])) h2 s.heap.objs.size (.tup [.int (i : Nat), x]) :=
      ⟨by show 2 ≤ sizeLine; decide, [.int i tk, y], .cons ⟨_, rfl⟩ (.cons ru .nil), ⟨_, hT2, rfl, _, rfl⟩⟩
    have I1 : L2.Inv X pins σ (upd H s.heap.objs.size (.tup [.int (i : Nat), x])) { s with heap := h2, toks := tk + 1 } :=
      I.turnedNew (ch := [e, it]) (fun b ob hb q => (sb.2 b (fun z => hb (by simp [z]))).trans
        (hk b ob (fun z => hb (by simp [z])) (fun z => hb (by simp [z])) q)) hf (Nat.le_refl _) new
    refine ⟨.ref s.heap.objs.size, _, I1, rfl, ⟨_, x, rfl, I.hok.fresh (Nat.le_refl _), rfl, fun ys hy => by rw [I.tuple_inj hy hq]; exact hx⟩,
      ⟨⟨y, ?_⟩, hit'.1.at fun o q => (sb.2 it (Ne.symm hne)).trans q, hne⟩, fun b hb => ?_⟩
    · have e1 : ((i + 1 : Nat) : Int) = (i : Int) + 1 := by omega
      rw [e1]; exact he2
    · have hb' : b < s.heap.objs.size := by
        have e' : b = e ∨ b = it := by simpa using hb
        rcases e' with z | z
        · subst z; exact hel
        · subst z; exact hil
      rw [upd_ne (Nat.ne_of_lt hb')]
      exact (hf b hb).1
  done := by
    intro X hP hw hK hc i pins s σ H E I hf st hg
    subst hP hw hK
    obtain ⟨⟨old, he⟩, hit, hne⟩ := st
    obtain ⟨xs, hq, hx⟩ := hg
    obtain ⟨its, rv, p, hz⟩ := I.tuple hq
    obtain ⟨f0, f1, f2, f3, f4, f5⟩ := hf it (by simp)
    have hai : a ≠ it := fun z => by
      obtain ⟨o1, g1, c1, _⟩ := hit
      obtain ⟨o2, g2, c2, _⟩ := p
      rw [z, g1] at g2
      cases g2
      rw [c1] at c2
      exact absurd c2 (by decide)
    have hh : X.A.in1.handled = none := by simp [I.ok.hd hc]
    have D := Draws.tuple (prog := X.prog) (w := X.w) hh it a hai its.toArray
    have hn : its.toArray.size = i := by rw [List.size_toArray, ← rv.length]; exact hx
    refine wpAny_pyNext_enum_endD D he ⟨by rw [hn]; exact hit, p⟩ fun h' eb => ⟨rfl, I.turned (t' := s.toks) (fun b o hb q => eb b o hb q) f0 f1 f3 f4 f5⟩
  self := fun A i s Q E st h => let ⟨⟨_, he⟩, _⟩ := st; wpAny_pyIter_enum he h

/-- enumerate(t) made -/
theorem meets_enumT {v : Value} {o : Obj} {H : Heap → Prop} (B : Begins v o H) :
    Meets (Builtin.«enumerate.__new__» ⟨[.type "enumerate", v], []⟩) (fun _ R s => H s.heap ∧
      R (.ok (.ret (.ref (s.heap.push o).objs.size)))
        { s with heap := (s.heap.push o).push { cls := .type "enumerate", data := .fields #[.none, .bool false, .ref s.heap.objs.size, rawInt 0, .none, .none] } }) :=
  .of_wp fun prog w A R s h => by
    obtain ⟨hp, g, d, tk, os⟩ := s; obtain ⟨h1, h⟩ := h
    have hsub := sub_enumerate
    have q1 : ∀ {A' : Around} {E : Value → Shared → Prop} {Q : Value → Shared → Prop}, Q (.ref hp.objs.size) ⟨hp.push o, g, d, tk, os⟩ →
        wpAny (model prog w) A' (pyIter v) Q E ⟨hp, g, d, tk, os⟩ := fun q => B.iter prog w _ _ ⟨hp, g, d, tk, os⟩ _ h1 q
    wp_walk using q1
    refine wpAny_stack_any fun st => wpAny_pure ?_
    split
    · rename_i c _ _ _ _ _
      cases (c == Value.type "enumerate")
      · wp_walk using q1
        exact ⟨_, rfl, h⟩
      · wp_walk using q1
        exact ⟨_, rfl, h⟩
    · wp_walk using q1
      exact ⟨_, rfl, h⟩
def iEnumT (K : PySem.W.Frag) (ta : TA) : TI := fun σ H R => ta σ H fun vs H1 => ∃ a xs, vs = [.ref a] ∧ SqT K H1 a xs ∧ R (IteT K a) H1
theorem pi_enumT {X : Cx} {e : Expr} {ta : TA} {p pos tpos : Pos} {elts : List Expr} {kk : Nat} (hg : Gl X "enumerate") (hm : X.mg "enumerate" = none)
    (ha : PA X [e] ta) (hs : starEach [e] X.env = [(false, eval e X.env)] := by rfl) :
    PI X (.Tuple elts kk tpos) (.Call (.Name "enumerate" p) [e] [] pos) (iEnumT X.K ta) := by
  refine ⟨fun pins s σ H R I h => ?_⟩
  refine Call_ (ld_blt I hg hm boot_enumerate (PyProof.Rows.callWith_type1 (thn (ha.run pos pins s σ H _ I h) fun us s1 ⟨vs, H1, I1, r1, q1⟩ => ?_) hs rfl))
  obtain ⟨a, xs, ex, hq, q⟩ := q1
  subst ex
  cases r1 with
  | cons r rr =>
    cases rr
    cases r
    obtain ⟨its, rv, p', hz⟩ := I1.tuple hq
    refine callType_new F.called_enumerate (by decide) (F.typeCall_enumerate_1 _) (F.newCall_enumerate_1 _) (fun obj => F.args_object_init_2 obj _)
      F.entry_enumerate_new (meets_enumT (begins_tuple a its.toArray)) ⟨p', ?_⟩
    have z1 : (s1.heap.push { cls := .type "tuple_iterator", data := .fields #[.ref a, .int 0 0] }).objs.size = s1.heap.objs.size + 1 := Heap.size_push ..
    show _ ∧ _
    rw [z1]
    have he : IsEnum ((s1.heap.push { cls := .type "tuple_iterator", data := .fields #[.ref a, .int 0 0] }).push
        { cls := .type "enumerate", data := .fields #[.none, .bool false, .ref s1.heap.objs.size, rawInt 0, .none, .none] })
        (s1.heap.objs.size + 1) s1.heap.objs.size 0 .none := by
      have := Heap.get?_push_size (s1.heap.push { cls := .type "tuple_iterator", data := .fields #[.ref a, .int 0 0] })
        (o := { cls := .type "enumerate", data := .fields #[.none, .bool false, .ref s1.heap.objs.size, rawInt 0, .none, .none] }) rfl
      rw [z1] at this; exact this
    refine ⟨⟨_, he, rfl⟩, ?_⟩
    refine wpAny_pyIter_enum he ?_
    have I2 : L2.Inv X pins σ H1 ⟨(s1.heap.push { cls := .type "tuple_iterator", data := .fields #[.ref a, .int 0 0] }).push { cls := .type "enumerate", data := .fields #[.none, .bool false, .ref s1.heap.objs.size, rawInt 0, .none, .none] }, s1.gens, s1.drawn, s1.toks, s1.os⟩ :=
      I1.kept (t' := s1.toks) fun b o x => Heap.get?_push_of_some _ (Heap.get?_push_of_some _ x)
    refine ⟨s1.heap.objs.size + 1, [s1.heap.objs.size + 1, s1.heap.objs.size], _, _, H1, rfl, I2, turn_enumT a (s1.heap.objs.size + 1) s1.heap.objs.size,
      ⟨⟨.none, he⟩, ⟨_, Heap.get?_push_of_some _ (Heap.get?_push_size _ rfl), rfl, rfl⟩, Nat.succ_ne_self _⟩, fun b hb => ?_, q⟩
    have e' : b = s1.heap.objs.size + 1 ∨ b = s1.heap.objs.size := by simpa using hb
    have hle : s1.heap.objs.size ≤ b := by
      rcases e' with z | z
      · rw [z]; exact Nat.le_succ _
      · rw [z]; exact Nat.le_refl _
    exact I1.fpOk hle (I1.hok.fresh hle)
end Td
/-! Data: what stays, data in the heap, names, rows. -/
namespace Td
open PySem PySem.Spec PyProof.Rows L2

/-! ### what stays while the object at st changes -/
def Keep (st : Addr) (H H' : Hp) : Prop := ∀ b o, b ≠ st → H b = some o → H' b = some o
theorem Keep.refl (st : Addr) (H : Hp) : Keep st H H := fun _ _ _ h => h
theorem Keep.trans {st : Addr} {H H1 H2 : Hp} (a : Keep st H H1) (b : Keep st H1 H2) : Keep st H H2 := fun c o n h => b c o n (a c o n h)
theorem Keep.upd {st : Addr} {H : Hp} {o : HO} : Keep st H (upd H st o) := fun b u n h => by rw [upd_ne n]; exact h
theorem Keep.new {st p : Addr} {H : Hp} {o : HO} (h : H p = none) : Keep st H (L2.upd H p o) := fun b u n e => by
  rw [upd_ne (ne_of_none e h)]; exact e
theorem Keep.free {st p : Addr} {H H' : Hp} (k : Keep st H H') (n : p ≠ st) (h : H' p = none) : H p = none := by
  cases e : H p with
  | none => rfl
  | some o => rw [k p o n e] at h; cases h
/-- an object that was not there at first is changed -/
theorem Keep.own {st p : Addr} {H H' : Hp} {o : HO} (k : Keep st H H') (h : H p = none) : Keep st H (L2.upd H' p o) := fun b u nb e => by
  rw [upd_ne (ne_of_none e h)]; exact k b u nb e
theorem Same.new {H : Hp} {p : Addr} (h : H p = none) (o : HO) : Same H (upd H p o) := fun b u e => by
  rw [upd_ne (ne_of_none e h)]; exact e
theorem Same.keep {H H' : Hp} (h : Same H H') (st : Addr) : Keep st H H' := fun b o _ e => h b o e

/-! ### immutable and mutable data, away from st -/
section
variable {K : PySem.W.Frag} {H H' : Hp} {a : Addr} {xs : List V}
theorem SqT.same (s : Same H H') (h : SqT K H a xs) : SqT K H' a xs := by
  rcases h with (h | ⟨o, h⟩) | h
  · exact .inl (.inl (s _ _ h))
  · exact .inl (.inr ⟨o, s _ _ h⟩)
  · exact .inr h
theorem SqL.same (s : Same H H') (h : SqL K H a xs) : SqL K H' a xs := s.seq h
theorem SqT.keep {st : Addr} (s : Keep st H H') (n : a ≠ st) (h : SqT K H a xs) : SqT K H' a xs := by
  rcases h with (h | ⟨o, h⟩) | h
  · exact .inl (.inl (s _ _ n h))
  · exact .inl (.inr ⟨o, s _ _ n h⟩)
  · exact .inr h
theorem SqL.keep {st : Addr} (s : Keep st H H') (n : a ≠ st) (h : SqL K H a xs) : SqL K H' a xs := by
  rcases h with (h | ⟨o, h⟩) | h
  · exact .inl (.inl (s _ _ n h))
  · exact .inl (.inr ⟨o, s _ _ n h⟩)
  · exact .inr h
end
mutual
/-- data at a value, none of its objects at st -/
inductive Dn (K : PySem.W.Frag) (st : Addr) (H : Hp) : V → PyData → Prop
  | non : Dn K st H .non .none
  | bl (b : Bool) : Dn K st H (.bl b) (.bool b)
  | int (i : Int) : Dn K st H (.int i) (.int i)
  | str (x : Str) : Dn K st H (.str x) (.str x)
  | lst {a : Addr} {xs : List V} {ds : List PyData} : a ≠ st → SqL K H a xs → DnAll K st H xs ds → Dn K st H (.ref a) (.list ds)
  | tup {a : Addr} {xs : List V} {ds : List PyData} : a ≠ st → SqT K H a xs → DnAll K st H xs ds → Dn K st H (.ref a) (.tuple ds)
inductive DnAll (K : PySem.W.Frag) (st : Addr) (H : Hp) : List V → List PyData → Prop
  | nil : DnAll K st H [] []
  | cons {v : V} {vs : List V} {d : PyData} {ds : List PyData} : Dn K st H v d → DnAll K st H vs ds → DnAll K st H (v :: vs) (d :: ds)
end
section
variable {K : PySem.W.Frag} {H H' : Hp} {st : Addr}
mutual
theorem Dn.keep (s : Keep st H H') : ∀ {v : V} {d : PyData}, Dn K st H v d → Dn K st H' v d
  | _, _, .non => .non
  | _, _, .bl b => .bl b
  | _, _, .int b => .int b
  | _, _, .str b => .str b
  | _, _, .lst n q r => .lst n (SqL.keep s n q) (DnAll.keep s r)
  | _, _, .tup n q r => .tup n (SqT.keep s n q) (DnAll.keep s r)
theorem DnAll.keep (s : Keep st H H') : ∀ {v : List V} {d : List PyData}, DnAll K st H v d → DnAll K st H' v d
  | _, _, .nil => .nil
  | _, _, .cons a b => .cons (Dn.keep s a) (DnAll.keep s b)
end
mutual
theorem Dn.dp : ∀ {v : V} {d : PyData}, Dn K st H v d → Dp K H v d
  | _, _, .non => .non
  | _, _, .bl b => .bl b
  | _, _, .int b => .int b
  | _, _, .str b => .str b
  | _, _, .lst n q r => .lst q (DnAll.dp r)
  | _, _, .tup n q r => .tup q (DnAll.dp r)
theorem DnAll.dp : ∀ {v : List V} {d : List PyData}, DnAll K st H v d → DpAll K H v d
  | _, _, .nil => .nil
  | _, _, .cons a b => .cons (Dn.dp a) (DnAll.dp b)
end
mutual
theorem Dp.same (s : Same H H') : ∀ {v : V} {d : PyData}, Dp K H v d → Dp K H' v d
  | _, _, .non => .non
  | _, _, .bl b => .bl b
  | _, _, .int b => .int b
  | _, _, .str b => .str b
  | _, _, .lst q r => .lst (SqL.same s q) (DpAll.same s r)
  | _, _, .tup q r => .tup (SqT.same s q) (DpAll.same s r)
theorem DpAll.same (s : Same H H') : ∀ {v : List V} {d : List PyData}, DpAll K H v d → DpAll K H' v d
  | _, _, .nil => .nil
  | _, _, .cons a b => .cons (Dp.same s a) (DpAll.same s b)
end
theorem DpAll.length : ∀ {vs : List V} {ds : List PyData}, DpAll K H vs ds → vs.length = ds.length
  | _, _, .nil => rfl
  | _, _, .cons _ r => by rw [List.length_cons, List.length_cons, DpAll.length r]
theorem DpAll.get : ∀ {vs : List V} {ds : List PyData} {i : Nat} {v : V}, DpAll K H vs ds → vs[i]? = some v → ∃ d, ds[i]? = some d ∧ Dp K H v d
  | _, _, _, _, .nil, h => by simp at h
  | _, _, 0, _, .cons a _, h => by simp at h; subst h; exact ⟨_, rfl, a⟩
  | _, _, i + 1, v, .cons _ r, h => by
    obtain ⟨d, h1, h2⟩ := DpAll.get (i := i) (v := v) r (by simpa using h)
    exact ⟨d, by simpa using h1, h2⟩
theorem DpAll.append : ∀ {vs ws : List V} {ds es : List PyData}, DpAll K H vs ds → DpAll K H ws es → DpAll K H (vs ++ ws) (ds ++ es)
  | _, _, _, _, .nil, h => h
  | _, _, _, _, .cons a r, h => .cons a (DpAll.append r h)
theorem DpAll.strs (zs : List Str) : DpAll K H (zs.map V.str) (zs.map PyData.str) := by
  induction zs with
  | nil => exact .nil
  | cons z r ih => exact .cons (.str z) ih
theorem DnAll.strs (zs : List Str) : DnAll K st H (zs.map V.str) (zs.map PyData.str) := by
  induction zs with
  | nil => exact .nil
  | cons z r ih => exact .cons (.str z) ih
theorem DnAll.append : ∀ {vs ws : List V} {ds es : List PyData}, DnAll K st H vs ds → DnAll K st H ws es → DnAll K st H (vs ++ ws) (ds ++ es)
  | _, _, _, _, .nil, h => h
  | _, _, _, _, .cons a r, h => .cons a (DnAll.append r h)
theorem DnAll.length : ∀ {vs : List V} {ds : List PyData}, DnAll K st H vs ds → vs.length = ds.length
  | _, _, .nil => rfl
  | _, _, .cons _ r => by rw [List.length_cons, List.length_cons, DnAll.length r]
theorem DnAll.get : ∀ {vs : List V} {ds : List PyData} {i : Nat} {v : V}, DnAll K st H vs ds → vs[i]? = some v → ∃ d, ds[i]? = some d ∧ Dn K st H v d
  | _, _, _, _, .nil, h => by simp at h
  | _, _, 0, _, .cons a _, h => by simp at h; subst h; exact ⟨_, rfl, a⟩
  | _, _, i + 1, v, .cons _ r, h => by
    obtain ⟨d, h1, h2⟩ := DnAll.get (i := i) (v := v) r (by simpa using h)
    exact ⟨d, by simpa using h1, h2⟩
/-- a tuple's value -/
theorem Dp.tup_inv {v : V} {ds : List PyData} (h : Dp K H v (.tuple ds)) : ∃ a xs, v = .ref a ∧ SqT K H a xs ∧ DpAll K H xs ds := by
  cases h with
  | tup q r => exact ⟨_, _, rfl, q, r⟩
theorem Dn.tup_inv {v : V} {ds : List PyData} (h : Dn K st H v (.tuple ds)) : ∃ a xs, v = .ref a ∧ a ≠ st ∧ SqT K H a xs ∧ DnAll K st H xs ds := by
  cases h with
  | tup n q r => exact ⟨_, _, rfl, n, q, r⟩
theorem Dp.str_inv {v : V} {z : Str} (h : Dp K H v (.str z)) : v = .str z := by cases h; rfl
theorem Dn.str_inv {v : V} {z : Str} (h : Dn K st H v (.str z)) : v = .str z := by cases h; rfl
theorem DpAll.strs_inv : ∀ {vs : List V} {zs : List Str}, DpAll K H vs (zs.map PyData.str) → vs = zs.map V.str
  | vs, [], h => by cases h; rfl
  | vs, z :: zs, h => by
    cases h with
    | cons a r => cases a; rw [DpAll.strs_inv r]; rfl
theorem DnAll.strs_inv : ∀ {vs : List V} {zs : List Str}, DnAll K st H vs (zs.map PyData.str) → vs = zs.map V.str
  | vs, [], h => by cases h; rfl
  | vs, z :: zs, h => by
    cases h with
    | cons a r => cases a; rw [DnAll.strs_inv r]; rfl
theorem DnAll.of_dp_new {p : Addr} {o : HO} {vs : List V} {ds : List PyData} (h : DnAll K st H vs ds) (hp : H p = none) : DnAll K st (upd H p o) vs ds := DnAll.keep (Keep.new hp) h
theorem Dn.new {p : Addr} {o : HO} {v : V} {d : PyData} (h : Dn K st H v d) (hp : H p = none) : Dn K st (upd H p o) v d := Dn.keep (Keep.new hp) h
end

/-! ### names -/
def lowc (c : Nat) : Bool := decide (97 ≤ c) && decide (c ≤ 122)
def isNm (z : Str) : Bool := decide (1 ≤ z.length) && decide (z.length ≤ 8) && z.cps.toList.all lowc

/-! ### rows -/
inductive Row where
  | rd (pk : Bool) (c s : Str)
  | put (s w : Str)
  | give (s : Str)
  | say (s : Str)
  | wr (c s : Str)
  | ite (s w : Str) (y n : List Row)
mutual
def rowD : Row → PyData
  | .rd pk c s => .tuple [.str (if pk then "peek" else "read"), .str c, .str s]
  | .put s w => .tuple [.str "put", .str s, .str w]
  | .give s => .tuple [.str "give", .str s]
  | .say s => .tuple [.str "say", .str s]
  | .wr c s => .tuple [.str "write", .str c, .str s]
  | .ite s w y n => .tuple [.str "if", .str s, .str w, .tuple (rowsD y), .tuple (rowsD n)]
def rowsD : List Row → List PyData
  | [] => []
  | r :: rs => rowD r :: rowsD rs
end
theorem rowsD_length : ∀ rs, (rowsD rs).length = rs.length
  | [] => by unfold rowsD; rfl
  | r :: rs => by unfold rowsD; rw [List.length_cons, List.length_cons, rowsD_length rs]
theorem rowsD_append : ∀ rs ts, rowsD (rs ++ ts) = rowsD rs ++ rowsD ts
  | [], ts => by simp [rowsD]
  | r :: rs, ts => by simp only [List.cons_append, rowsD, rowsD_append rs ts]
theorem rowsD_get : ∀ {rs : List Row} {i : Nat} {r : Row}, rs[i]? = some r → (rowsD rs)[i]? = some (rowD r)
  | [], i, r, h => by simp at h
  | x :: rs, 0, r, h => by simp at h; subst h; unfold rowsD; rfl
  | x :: rs, i + 1, r, h => by
    unfold rowsD
    rw [List.getElem?_cons_succ]
    exact rowsD_get (by simpa using h)
mutual
def cnt : Row → Nat
  | .ite _ _ y n => 1 + cnts y + cnts n
  | .rd .. => 1
  | .put .. => 1
  | .give .. => 1
  | .say .. => 1
  | .wr .. => 1
def cnts : List Row → Nat
  | [] => 0
  | r :: rs => cnt r + cnts rs
end
theorem cnts_append : ∀ rs ts, cnts (rs ++ ts) = cnts rs + cnts ts
  | [], ts => by simp [cnts]
  | r :: rs, ts => by
    simp only [List.cons_append, cnts, cnts_append rs ts]; omega
/-- what the rows of a body may be and may name -/
structure Sc where
  eff : Bool
  words : List Str
  sources : List Str
  readable : List Str
mutual
def okR (S : Sc) (dep : Nat) : Row → Prop
  | .rd pk c s => (pk = true → S.eff = true) ∧ c ∈ S.readable ∧ isNm s = true
  | .put s w => isNm s = true ∧ w ∈ S.words
  | .give s => S.eff = false ∧ isNm s = true
  | .say s => S.eff = true ∧ isNm s = true
  | .wr c s => S.eff = true ∧ c ∈ S.sources ∧ isNm s = true
  | .ite s w y n => dep ≤ 3 ∧ isNm s = true ∧ w ∈ S.words ∧ okRs S (dep + 1) y ∧ okRs S (dep + 1) n
def okRs (S : Sc) (dep : Nat) : List Row → Prop
  | [] => True
  | r :: rs => okR S dep r ∧ okRs S dep rs
end
theorem okRs_append {S : Sc} {dep : Nat} : ∀ {rs ts}, okRs S dep rs → okRs S dep ts → okRs S dep (rs ++ ts)
  | [], ts, _, h => h
  | r :: rs, ts, h, h2 => by
    unfold okRs at h
    show okRs S dep (r :: (rs ++ ts))
    unfold okRs
    exact ⟨h.1, okRs_append h.2 h2⟩
theorem okRs_get {S : Sc} {dep : Nat} : ∀ {rs : List Row} {i : Nat} {r : Row}, okRs S dep rs → rs[i]? = some r → okR S dep r
  | [], i, r, _, h => by simp at h
  | x :: rs, 0, r, ok, h => by
    unfold okRs at ok
    simp at h; subst h; exact ok.1
  | x :: rs, i + 1, r, ok, h => by
    unfold okRs at ok
    exact okRs_get ok.2 (by simpa using h)
theorem okRs_one {S : Sc} {dep : Nat} {r : Row} (h : okR S dep r) : okRs S dep [r] := by
  unfold okRs
  exact ⟨h, by unfold okRs; trivial⟩
end Td
namespace Td
open PySem PySem.Spec PyProof.Rows L2
/-- an if whose test is known -/
theorem if_true_of {c : Bool} {A B : Prop} (hc : c = true) (h : A) : if c = true then A else B := by
  rw [if_pos hc]; exact h
theorem if_false_of {c : Bool} {A B : Prop} (hc : c = false) (h : B) : if c = true then A else B := by
  rw [hc, if_neg Bool.false_ne_true]; exact h
def rowTag : Row → Str
  | .rd pk _ _ => if pk then "peek" else "read"
  | .put .. => "put"
  | .give .. => "give"
  | .say .. => "say"
  | .wr .. => "write"
  | .ite .. => "if"
def isIte : Row → Bool
  | .ite .. => true
  | _ => false
theorem tag_if (r : Row) : decide (V.str (rowTag r) = V.str "if") = isIte r := by
  cases r with
  | rd pk c s =>
    cases pk
    · show decide (V.str "read" = V.str "if") = false; decide +kernel
    · show decide (V.str "peek" = V.str "if") = false; decide +kernel
  | put => show decide (V.str "put" = V.str "if") = false; decide +kernel
  | give => show decide (V.str "give" = V.str "if") = false; decide +kernel
  | say => show decide (V.str "say" = V.str "if") = false; decide +kernel
  | wr => show decide (V.str "write" = V.str "if") = false; decide +kernel
  | ite => show decide (V.str "if" = V.str "if") = true; decide +kernel
section
variable {K : PySem.W.Frag} {H H' : Hp} {st : Addr} {v : V}
/-- a row's tuple -/
theorem row_at {r : Row} (h : Dp K H v (rowD r)) : ∃ a xs, v = .ref a ∧ SqT K H a xs ∧ xs[0]? = some (.str (rowTag r)) := by
  cases r with
  | rd pk c s =>
    obtain ⟨a, xs, rfl, hS, hD⟩ := Dp.tup_inv (by unfold rowD at h; exact h)
    cases hD with | cons h1 _ => cases h1; exact ⟨a, _, rfl, hS, rfl⟩
  | put s w =>
    obtain ⟨a, xs, rfl, hS, hD⟩ := Dp.tup_inv (by unfold rowD at h; exact h)
    cases hD with | cons h1 _ => cases h1; exact ⟨a, _, rfl, hS, rfl⟩
  | give s =>
    obtain ⟨a, xs, rfl, hS, hD⟩ := Dp.tup_inv (by unfold rowD at h; exact h)
    cases hD with | cons h1 _ => cases h1; exact ⟨a, _, rfl, hS, rfl⟩
  | say s =>
    obtain ⟨a, xs, rfl, hS, hD⟩ := Dp.tup_inv (by unfold rowD at h; exact h)
    cases hD with | cons h1 _ => cases h1; exact ⟨a, _, rfl, hS, rfl⟩
  | wr c s =>
    obtain ⟨a, xs, rfl, hS, hD⟩ := Dp.tup_inv (by unfold rowD at h; exact h)
    cases hD with | cons h1 _ => cases h1; exact ⟨a, _, rfl, hS, rfl⟩
  | ite s w y n =>
    obtain ⟨a, xs, rfl, hS, hD⟩ := Dp.tup_inv (by unfold rowD at h; exact h)
    cases hD with | cons h1 _ => cases h1; exact ⟨a, _, rfl, hS, rfl⟩
theorem DpAll.inv2 {xs : List V} {d1 d2 : PyData} (h : DpAll K H xs [d1, d2]) : ∃ v1 v2, xs = [v1, v2] ∧ Dp K H v1 d1 ∧ Dp K H v2 d2 := by
  cases h with | cons a r => cases r with | cons b r => cases r; exact ⟨_, _, rfl, a, b⟩
theorem DpAll.inv3 {xs : List V} {d1 d2 d3 : PyData} (h : DpAll K H xs [d1, d2, d3]) : ∃ v1 v2 v3, xs = [v1, v2, v3] ∧ Dp K H v1 d1 ∧ Dp K H v2 d2 ∧ Dp K H v3 d3 := by
  cases h with | cons a r => obtain ⟨v2, v3, rfl, h2, h3⟩ := DpAll.inv2 r; exact ⟨_, _, _, rfl, a, h2, h3⟩
theorem DpAll.inv5 {xs : List V} {d1 d2 d3 d4 d5 : PyData} (h : DpAll K H xs [d1, d2, d3, d4, d5]) :
    ∃ v1 v2 v3 v4 v5, xs = [v1, v2, v3, v4, v5] ∧ Dp K H v1 d1 ∧ Dp K H v2 d2 ∧ Dp K H v3 d3 ∧ Dp K H v4 d4 ∧ Dp K H v5 d5 := by
  cases h with | cons a r => cases r with | cons b r => obtain ⟨v3, v4, v5, rfl, h3, h4, h5⟩ := DpAll.inv3 r; exact ⟨_, _, _, _, _, rfl, a, b, h3, h4, h5⟩
theorem rd_at {pk : Bool} {c s : Str} (h : Dp K H v (rowD (.rd pk c s))) : ∃ a, v = .ref a ∧ SqT K H a [.str (if pk then "peek" else "read"), .str c, .str s] := by
  obtain ⟨a, xs, rfl, hS, hD⟩ := Dp.tup_inv (by unfold rowD at h; exact h)
  obtain ⟨v1, v2, v3, rfl, h1, h2, h3⟩ := DpAll.inv3 hD
  cases h1; cases h2; cases h3
  exact ⟨a, rfl, hS⟩
theorem put_at {s c : Str} (h : Dp K H v (rowD (.put s c))) : ∃ a, v = .ref a ∧ SqT K H a [.str "put", .str s, .str c] := by
  obtain ⟨a, xs, rfl, hS, hD⟩ := Dp.tup_inv (by unfold rowD at h; exact h)
  obtain ⟨v1, v2, v3, rfl, h1, h2, h3⟩ := DpAll.inv3 hD
  cases h1; cases h2; cases h3
  exact ⟨a, rfl, hS⟩
theorem wr_at {s c : Str} (h : Dp K H v (rowD (.wr c s))) : ∃ a, v = .ref a ∧ SqT K H a [.str "write", .str c, .str s] := by
  obtain ⟨a, xs, rfl, hS, hD⟩ := Dp.tup_inv (by unfold rowD at h; exact h)
  obtain ⟨v1, v2, v3, rfl, h1, h2, h3⟩ := DpAll.inv3 hD
  cases h1; cases h2; cases h3
  exact ⟨a, rfl, hS⟩
theorem give_at {s : Str} (h : Dp K H v (rowD (.give s))) : ∃ a, v = .ref a ∧ SqT K H a [.str "give", .str s] := by
  obtain ⟨a, xs, rfl, hS, hD⟩ := Dp.tup_inv (by unfold rowD at h; exact h)
  obtain ⟨v1, v2, rfl, h1, h2⟩ := DpAll.inv2 hD
  cases h1; cases h2
  exact ⟨a, rfl, hS⟩
theorem say_at {s : Str} (h : Dp K H v (rowD (.say s))) : ∃ a, v = .ref a ∧ SqT K H a [.str "say", .str s] := by
  obtain ⟨a, xs, rfl, hS, hD⟩ := Dp.tup_inv (by unfold rowD at h; exact h)
  obtain ⟨v1, v2, rfl, h1, h2⟩ := DpAll.inv2 hD
  cases h1; cases h2
  exact ⟨a, rfl, hS⟩
theorem ite_at {s c : Str} {y n : List Row} (h : Dp K H v (rowD (.ite s c y n))) : ∃ a vy vn, v = .ref a ∧ SqT K H a [.str "if", .str s, .str c, vy, vn] ∧
    Dp K H vy (.tuple (rowsD y)) ∧ Dp K H vn (.tuple (rowsD n)) := by
  obtain ⟨a, xs, rfl, hS, hD⟩ := Dp.tup_inv (by unfold rowD at h; exact h)
  obtain ⟨v1, v2, v3, v4, v5, rfl, h1, h2, h3, h4, h5⟩ := DpAll.inv5 hD
  cases h1; cases h2; cases h3
  exact ⟨a, _, _, rfl, hS, h4, h5⟩
/-- the rows' items -/
theorem rows_at {rs : List Row} (h : Dp K H v (.tuple (rowsD rs))) : ∃ (a : Addr) (xs : List V), v = .ref a ∧ SqT K H a xs ∧ xs.length = rs.length ∧
    ∀ (i : Nat) (x : V), xs[i]? = some x → ∃ r, rs[i]? = some r ∧ Dp K H x (rowD r) := by
  obtain ⟨a, xs, rfl, hS, hD⟩ := Dp.tup_inv h
  have hl := DpAll.length hD
  rw [rowsD_length] at hl
  refine ⟨a, xs, rfl, hS, hl, fun i x hx => ?_⟩
  have hi : i < rs.length := by rw [← hl]; exact (List.getElem?_eq_some_iff.mp hx).1
  obtain ⟨d, h1, h2⟩ := DpAll.get hD hx
  have e := rowsD_get (List.getElem?_eq_getElem hi)
  rw [h1] at e
  exact ⟨_, List.getElem?_eq_getElem hi, by rw [← Option.some.inj e]; exact h2⟩
end
theorem take_more {α : Type} {l : List α} {i : Nat} {x : α} (h : l[i]? = some x) : l.take (i + 1) = l.take i ++ [x] := by
  have hi := (List.getElem?_eq_some_iff.mp h).1
  rw [List.take_succ_eq_append_getElem hi, (List.getElem?_eq_some_iff.mp h).2]
theorem cnts_take {rs : List Row} {i : Nat} {r : Row} (h : rs[i]? = some r) : cnts (rs.take (i + 1)) = cnts (rs.take i) + cnt r := by
  rw [take_more h, cnts_append]
  simp [cnts]
theorem cnt_pos : ∀ r, 1 ≤ cnt r
  | .ite _ _ y n => by unfold cnt; omega
  | .rd .. => by unfold cnt; exact Nat.le_refl _
  | .put .. => by unfold cnt; exact Nat.le_refl _
  | .give .. => by unfold cnt; exact Nat.le_refl _
  | .say .. => by unfold cnt; exact Nat.le_refl _
  | .wr .. => by unfold cnt; exact Nat.le_refl _
theorem cnt_flat : ∀ {r}, isIte r = false → cnt r = 1
  | .ite .., h => by cases h
  | .rd .., _ => rfl
  | .put .., _ => rfl
  | .give .., _ => rfl
  | .say .., _ => rfl
  | .wr .., _ => rfl
end Td
/-! Data of tuples, texts, numbers alone. -/
namespace Td
open PySem PySem.Spec PyProof.Rows L2
def TK (H H' : Hp) : Prop := (∀ b xs, H b = some (.tup xs) → H' b = some (.tup xs)) ∧ ∀ b o u, H b = some (.frz o u) → H' b = some (.frz o u)
theorem TK.refl (H : Hp) : TK H H := ⟨fun _ _ h => h, fun _ _ _ h => h⟩
theorem TK.trans {H H1 H2 : Hp} (a : TK H H1) (b : TK H1 H2) : TK H H2 := ⟨fun c xs h => b.1 c xs (a.1 c xs h), fun c o u h => b.2 c o u (a.2 c o u h)⟩
theorem TK.of_same {H H' : Hp} (s : Same H H') : TK H H' := ⟨fun c xs h => s c _ h, fun c o u h => s c _ h⟩
/-- what may change: no tuple, nothing locked -/
def Chg : Option HO → Prop
  | some (.tup _) => False
  | some (.frz _ _) => False
  | _ => True
theorem TK.of_keep {st : Addr} {H H' : Hp} (k : Keep st H H') (h : Chg (H st)) : TK H H' :=
  ⟨fun b xs e => k b _ (fun z => by rw [z] at e; rw [e] at h; exact h) e, fun b o u e => k b _ (fun z => by rw [z] at e; rw [e] at h; exact h) e⟩
theorem TK.upd {p : Addr} {H : Hp} {o : HO} (h : Chg (H p)) : TK H (L2.upd H p o) := TK.of_keep (st := p) Keep.upd h
mutual
inductive Tn (K : PySem.W.Frag) (H : Hp) : V → PyData → Prop
  | non : Tn K H .non .none
  | bl (b : Bool) : Tn K H (.bl b) (.bool b)
  | int (i : Int) : Tn K H (.int i) (.int i)
  | str (x : Str) : Tn K H (.str x) (.str x)
  | tup {a : Addr} {xs : List V} {ds : List PyData} : SqT K H a xs → TnAll K H xs ds → Tn K H (.ref a) (.tuple ds)
inductive TnAll (K : PySem.W.Frag) (H : Hp) : List V → List PyData → Prop
  | nil : TnAll K H [] []
  | cons {v : V} {vs : List V} {d : PyData} {ds : List PyData} : Tn K H v d → TnAll K H vs ds → TnAll K H (v :: vs) (d :: ds)
end
section
variable {K : PySem.W.Frag} {H H' : Hp} {st : Addr}
theorem SqT.tk {a : Addr} {xs : List V} (k : TK H H') (h : SqT K H a xs) : SqT K H' a xs := by
  rcases h with (h | ⟨o, h⟩) | h
  · exact .inl (.inl (k.1 _ _ h))
  · exact .inl (.inr ⟨o, k.2 _ _ _ h⟩)
  · exact .inr h
mutual
theorem Tn.keep (s : TK H H') : ∀ {v : V} {d : PyData}, Tn K H v d → Tn K H' v d
  | _, _, .non => .non
  | _, _, .bl b => .bl b
  | _, _, .int b => .int b
  | _, _, .str b => .str b
  | _, _, .tup q r => .tup (SqT.tk s q) (TnAll.keep s r)
theorem TnAll.keep (s : TK H H') : ∀ {v : List V} {d : List PyData}, TnAll K H v d → TnAll K H' v d
  | _, _, .nil => .nil
  | _, _, .cons a b => .cons (Tn.keep s a) (TnAll.keep s b)
end
mutual
theorem Tn.dp : ∀ {v : V} {d : PyData}, Tn K H v d → Dp K H v d
  | _, _, .non => .non
  | _, _, .bl b => .bl b
  | _, _, .int b => .int b
  | _, _, .str b => .str b
  | _, _, .tup q r => .tup q (TnAll.dp r)
theorem TnAll.dp : ∀ {v : List V} {d : List PyData}, TnAll K H v d → DpAll K H v d
  | _, _, .nil => .nil
  | _, _, .cons a b => .cons (Tn.dp a) (TnAll.dp b)
end
theorem TnAll.strs (zs : List Str) : TnAll K H (zs.map V.str) (zs.map PyData.str) := by
  induction zs with
  | nil => exact .nil
  | cons z r ih => exact .cons (.str z) ih
theorem TnAll.append : ∀ {vs ws : List V} {ds es : List PyData}, TnAll K H vs ds → TnAll K H ws es → TnAll K H (vs ++ ws) (ds ++ es)
  | _, _, _, _, .nil, h => h
  | _, _, _, _, .cons a r, h => .cons a (TnAll.append r h)
theorem TnAll.length : ∀ {vs : List V} {ds : List PyData}, TnAll K H vs ds → vs.length = ds.length
  | _, _, .nil => rfl
  | _, _, .cons _ r => by rw [List.length_cons, List.length_cons, TnAll.length r]
theorem TnAll.one {v : V} {d : PyData} (h : Tn K H v d) : TnAll K H [v] [d] := .cons h .nil
theorem Tn.tup_inv {v : V} {ds : List PyData} (h : Tn K H v (.tuple ds)) : ∃ (a : Addr) (xs : List V), v = .ref a ∧ SqT K H a xs ∧ TnAll K H xs ds := by
  cases h with
  | tup q r => exact ⟨_, _, rfl, q, r⟩
theorem TnAll.get : ∀ {vs : List V} {ds : List PyData} {i : Nat} {v : V}, TnAll K H vs ds → vs[i]? = some v → ∃ d, ds[i]? = some d ∧ Tn K H v d
  | _, _, _, _, .nil, h => by simp at h
  | _, _, 0, _, .cons a _, h => by simp at h; subst h; exact ⟨_, rfl, a⟩
  | _, _, i + 1, v, .cons _ r, h => by
    obtain ⟨d, h1, h2⟩ := TnAll.get (i := i) (v := v) r (by simpa using h)
    exact ⟨d, by simpa using h1, h2⟩
theorem TnAll.strs_inv : ∀ {vs : List V} {zs : List Str}, TnAll K H vs (zs.map PyData.str) → vs = zs.map V.str
  | vs, [], h => by cases h; rfl
  | vs, z :: zs, h => by
    cases h with
    | cons a r => cases a; rw [TnAll.strs_inv r]; rfl
/-- a new tuple -/
theorem Tn.new {p : Addr} {xs : List V} {ds : List PyData} (h : TnAll K H xs ds) (hp : H p = none) : Tn K (upd H p (.tup xs)) (.ref p) (.tuple ds) :=
  .tup (SqT.of upd_same) (TnAll.keep (TK.of_same (Same.new hp _)) h)
end
/-! ### an if whose second way is shown once -/
def tIfC (c : TT) (t u : TS) : TS := fun D σ H => ∃ Mid : Hp → Prop, (c σ H fun b H1 => if b = true then t D σ H1 else Mid H1) ∧ ∀ H1, Mid H1 → u D σ H1
theorem ps_ifC {X : Cx} {c : Expr} {a b : List Stmt} {tc : TT} {t u : TS} {pos : Pos} (hc : PT X c tc) (ha : PSs X a t) (hb : PSs X b u) : PS X (.If c a b pos) (tIfC tc t u) := by
  refine ⟨fun pins s σ H D I h => ?_⟩
  obtain ⟨Mid, h, hu⟩ := h
  refine wpAny_If (thn (hc.run pins s σ H _ I h) fun d s1 ⟨H1, I1, q1⟩ => ?_)
  cases d with
  | true => exact ha.run pins s1 σ H1 D I1 q1
  | false => exact hb.run pins s1 σ H1 D I1 (hu H1 q1)
end Td
/-! The parts of a program. -/
namespace Td
open PySem PySem.Spec PyProof.Rows L2
/-- a list of different names -/
structure Names (ns : List Str) : Prop where
  good : ∀ z ∈ ns, isNm z = true
  nd : ns.Nodup
structure PP where
  words : List Str
  sources : List Str
  derived : List (Str × List Row)
  effects : List (Str × List Row)
def pairD (p : Str × List Row) : PyData := .tuple [.str p.1, .tuple (rowsD p.2)]
def strsD (zs : List Str) : PyData := .tuple (zs.map PyData.str)
def pairsD (ps : List (Str × List Row)) : PyData := .tuple (ps.map pairD)
def PP.data (p : PP) : PyData := .tuple [strsD p.words, strsD p.sources, pairsD p.derived, pairsD p.effects]
def PP.names (p : PP) : List Str := p.sources ++ p.derived.map (·.1) ++ p.effects.map (·.1)
def PP.cells (p : PP) : List Str := p.sources ++ p.derived.map (·.1)
/-- not too many rows; the last of them may be a give or a say beyond the room -/
def Lim (eff : Bool) (most : Nat) (rs : List Row) : Prop := cnts rs ≤ most ∧ ∃ rs0 t, rs = rs0 ++ t ∧ cnts rs0 + 1 ≤ most ∧ (t = [] ∨ ∃ s, t = [if eff then Row.say s else Row.give s])
/-- derived bodies are right, each behind the cells ahead of it -/
def okDer (words sources : List Str) (most : Nat) : List Str → List (Str × List Row) → Prop
  | _, [] => True
  | rd, p :: r => okRs ⟨false, words, sources, rd⟩ 1 p.2 ∧ Lim false most p.2 ∧ okDer words sources most (rd ++ [p.1]) r
def okEff (words sources rd : List Str) (most : Nat) : List (Str × List Row) → Prop
  | [] => True
  | p :: r => okRs ⟨true, words, sources, rd⟩ 1 p.2 ∧ Lim true most p.2 ∧ okEff words sources rd most r
structure PP.Ok (p : PP) (most : Nat) : Prop where
  w2 : 2 ≤ p.words.length
  w4 : p.words.length ≤ 4
  s1 : 1 ≤ p.sources.length
  s4 : p.sources.length ≤ 4
  d6 : p.derived.length ≤ 6
  e4 : p.effects.length ≤ 4
  wn : Names p.words
  nn : Names p.names
  der : okDer p.words p.sources most p.sources p.derived
  eff : okEff p.words p.sources p.cells most p.effects
theorem okDer_snoc {words sources : List Str} {most : Nat} : ∀ {ps : List (Str × List Row)} {rd : List Str} {p : Str × List Row}, okDer words sources most rd ps →
    okRs ⟨false, words, sources, rd ++ ps.map (·.1)⟩ 1 p.2 → Lim false most p.2 → okDer words sources most rd (ps ++ [p])
  | [], rd, p, _, h1, h2 => by
    show okDer words sources most rd [p]
    unfold okDer
    exact ⟨by simpa using h1, h2, by unfold okDer; trivial⟩
  | q :: ps, rd, p, h, h1, h2 => by
    show okDer words sources most rd (q :: (ps ++ [p]))
    unfold okDer at h ⊢
    refine ⟨h.1, h.2.1, okDer_snoc h.2.2 ?_ h2⟩
    simpa using h1
theorem okEff_snoc {words sources rd : List Str} {most : Nat} : ∀ {ps : List (Str × List Row)} {p : Str × List Row}, okEff words sources rd most ps →
    okRs ⟨true, words, sources, rd⟩ 1 p.2 → Lim true most p.2 → okEff words sources rd most (ps ++ [p])
  | [], p, _, h1, h2 => by
    show okEff words sources rd most [p]
    unfold okEff
    exact ⟨h1, h2, by unfold okEff; trivial⟩
  | q :: ps, p, h, h1, h2 => by
    show okEff words sources rd most (q :: (ps ++ [p]))
    unfold okEff at h ⊢
    exact ⟨h.1, h.2.1, okEff_snoc h.2.2 h1 h2⟩
theorem Names.sub {ns ms : List Str} (h : Names ns) (s : ms.Sublist ns) : Names ms := ⟨fun z hz => h.good z (s.subset hz), h.nd.sublist s⟩
/-- the keys of the shape -/
def shp (k c s sl w : V) : List (Key × V) := [(.inr "kind", k), (.inr "cells", c), (.inr "sources", s), (.inr "slots", sl), (.inr "words", w)]
def shp7 (k c s sl w p r : V) : List (Key × V) := [(.inr "kind", k), (.inr "cells", c), (.inr "sources", s), (.inr "slots", sl), (.inr "words", w), (.inr "peeks", p), (.inr "writes", r)]
def shp6 (k c s sl w p : V) : List (Key × V) := [(.inr "kind", k), (.inr "cells", c), (.inr "sources", s), (.inr "slots", sl), (.inr "words", w), (.inr "peeks", p)]
section
variable (k c s sl w p r k' c' p' r' : V)
theorem shp_merge : mergeK [] (shp k c s sl w) = shp k c s sl w := by kernel_rfl
theorem shp_peeks : putK (shp k c s sl w) (.inr "peeks") p = shp6 k c s sl w p := by kernel_rfl
theorem shp_writes : putK (shp6 k c s sl w p) (.inr "writes") r = shp7 k c s sl w p r := by kernel_rfl
theorem shp7_cells : putK (shp7 k c s sl w p r) (.inr "cells") c' = shp7 k c' s sl w p r := by kernel_rfl
theorem shp7_kind : putK (shp7 k c s sl w p r) (.inr "kind") k' = shp7 k' c s sl w p r := by kernel_rfl
theorem shp7_peeks : putK (shp7 k c s sl w p r) (.inr "peeks") p' = shp7 k c s sl w p' r := by kernel_rfl
theorem shp7_writes : putK (shp7 k c s sl w p r) (.inr "writes") r' = shp7 k c s sl w p r' := by kernel_rfl
theorem get_words : valV (shp7 k c s sl w p r) (.inr "words") = some w := by kernel_rfl
theorem get_slots : valV (shp7 k c s sl w p r) (.inr "slots") = some sl := by kernel_rfl
theorem get_cells : valV (shp7 k c s sl w p r) (.inr "cells") = some c := by kernel_rfl
theorem get_sources : valV (shp7 k c s sl w p r) (.inr "sources") = some s := by kernel_rfl
theorem get_kind : valV (shp7 k c s sl w p r) (.inr "kind") = some k := by kernel_rfl
theorem get_peeks : valV (shp7 k c s sl w p r) (.inr "peeks") = some p := by kernel_rfl
theorem get_writes : valV (shp7 k c s sl w p r) (.inr "writes") = some r := by kernel_rfl
end
theorem inV_strs (z : Str) (ws : List Str) : inV (.str z) (ws.map V.str) = decide (z ∈ ws) := by
  induction ws with
  | nil => rfl
  | cons y r ih =>
    show (eqV (.str y) (.str z) || inV (.str z) (r.map V.str)) = _
    rw [ih]
    have e : eqV (.str y) (.str z) = decide (z = y) := by
      show (_ : Bool) = _
      by_cases h : z = y
      · subst h; simp [eqV]
      · simp [eqV, h]
        intro h'; exact h h'.symm
    rw [e]
    simp
theorem flat_strs (ws : List Str) : (ws.map V.str).all flatV = true := by
  rw [List.all_eq_true]; intro y hy; obtain ⟨u, _, rfl⟩ := List.mem_map.mp hy; rfl
theorem cut_from1 (xs : List V) : cutV xs (some 1) none = xs.drop 1 := by
  unfold cutV
  rw [HT.sIx_none, show HT.sIx xs.length 0 (some 1) = min 1 xs.length from HT.sIx_nat _ _ 1]
  rcases xs with _ | ⟨x, r⟩
  · rfl
  · show ((x :: r).drop (min 1 (r.length + 1))).take ((r.length + 1) - min 1 (r.length + 1)) = _
    rw [show min 1 (r.length + 1) = 1 by omega]
    simp
theorem cut_to (xs : List V) (k : Nat) (h : k ≤ xs.length) : cutV xs none (some (k : Int)) = xs.take k := by
  unfold cutV
  rw [HT.sIx_none, HT.sIx_nat, List.drop_zero, Nat.sub_zero, Nat.min_eq_left h]
theorem not_whole1 {xs : List V} (h : xs ≠ []) (hi : Option Int) : ¬ (HT.sIx xs.length 0 (some 1) = 0 ∧ HT.sIx xs.length xs.length hi = xs.length) := by
  rintro ⟨e, _⟩
  rw [show HT.sIx xs.length 0 (some 1) = min 1 xs.length from HT.sIx_nat _ _ 1] at e
  have := List.length_pos_iff.mpr h
  omega
/-- the words with another one at the end -/
theorem Names.turn {ws : List Str} {z : Str} (h : Names ws) (hz : isNm z = true) (hn : z ∉ ws) : Names (ws.drop 1 ++ [z]) := by
  refine ⟨fun y hy => ?_, ?_⟩
  · rcases List.mem_append.mp hy with q | q
    · exact h.good y (List.mem_of_mem_drop q)
    · rw [List.mem_singleton.mp q]; exact hz
  · refine List.nodup_append.mpr ⟨h.nd.sublist (List.drop_sublist 1 ws), by simp, fun a ha b hb e => ?_⟩
    have : b = z := by simpa using hb
    subst this
    subst e
    exact hn (List.mem_of_mem_drop ha)
end Td
/-! Loops over texts and enumerated tuples; a call of one of several defs. -/
namespace Td
open PySem PySem.Spec PyProof.Rows L2
theorem tYes_of {σ : L2.St} {H : Hp} {A B : Hp → Prop} (h : A H) : tYes σ H (fun b H3 => if b = true then A H3 else B H3) := by
  show (if true = true then A H else B H)
  exact iteT h
theorem lc_str {z : Str} {g : TG} {tt : TT} {te : TE} {vs : List Nat} {σ : L2.St} {H1 : Hp} {D : Addr} {Qd : Hp → Prop} (Pv : Nat → Hp → Prop) (h0 : Pv 0 (upd H1 D (.lst [])))
    (hs : ∀ (i c : Nat) (H : Hp), z.cps[i]? = some c → Pv i H → g (.str ⟨#[c]⟩) (wipe σ vs) H fun σ2 H2 => wipe σ2 vs = wipe σ vs ∧ tt σ2 H2 fun b H3 =>
      if b = true then te σ2 H3 fun y H4 => ∃ acc, H4 D = some (.lst acc) ∧ acc.length < sizeLine ∧ Pv (i + 1) (upd H4 D (.lst (acc ++ [y]))) else Pv (i + 1) H3) (hd : ∀ H, Pv z.cps.size H → Qd H) :
    ∃ W : Nat → Nat → Hp → Prop, (∃ m, W 0 m (upd H1 D (.lst []))) ∧ ∀ i m H, W i m H →
      ((Its z).stop i H ∧ Qd H) ∨ ((Its z).go i H ∧ ∃ Nx : Hp → Prop, (∀ H', Nx H' → ∃ m', m' < m ∧ W (i + 1) m' H') ∧ ∀ x H', (Its z).yld i H x H' → g x (wipe σ vs) H' fun σ2 H2 => wipe σ2 vs = wipe σ vs ∧ tt σ2 H2 fun b H3 =>
        if b = true then te σ2 H3 fun y H4 => ∃ acc, H4 D = some (.lst acc) ∧ acc.length < sizeLine ∧ Nx (upd H4 D (.lst (acc ++ [y]))) else Nx H3) := by
  refine ⟨fun i m H => m = z.cps.size - i ∧ i ≤ z.cps.size ∧ Pv i H, ⟨z.cps.size, by simp, Nat.zero_le _, h0⟩, ?_⟩
  rintro i m H ⟨rfl, hi, p⟩
  by_cases hlt : i < z.cps.size
  · refine .inr ⟨hlt, Pv (i + 1), fun H' p' => ⟨z.cps.size - (i + 1), by omega, rfl, hlt, p'⟩, fun x H' y => ?_⟩
    obtain ⟨e, c, hc, ex⟩ := y
    subst e
    subst ex
    exact hs i c _ hc p
  · have e : i = z.cps.size := by omega
    subst e
    exact .inl ⟨Nat.le_refl _, hd H p⟩
theorem for_enumT {K : PySem.W.Frag} {a : Addr} {xs : List V} {g : TG} {tb : TS} {D : Ends} {σ : L2.St} {H : Hp} (Pv : Nat → L2.St → Hp → Prop) (h0 : Pv 0 σ H) (hl : ∀ i σ H, i ≤ xs.length → Pv i σ H → SqT K H a xs)
    (hs : ∀ (i : Nat) (x : V) (σ : L2.St) (H : Hp) (T : Addr), xs[i]? = some x → Pv i σ H → H T = none → g (.ref T) σ (upd H T (.tup [.int (i : Nat), x])) fun σ2 H2 => tb { D with nx := Pv (i + 1), ct := Pv (i + 1), bk := D.nx } σ2 H2)
    (hd : ∀ σ H, Pv xs.length σ H → D.nx σ H) :
    ∃ W : Nat → Nat → L2.St → Hp → Prop, (∃ m, W 0 m σ H) ∧ ∀ i m σ H, W i m σ H →
      ((IteT K a).stop i H ∧ D.nx σ H) ∨ ((IteT K a).go i H ∧ ∃ N : L2.St → Hp → Prop, (∀ σ' H', N σ' H' → ∃ m', m' < m ∧ W (i + 1) m' σ' H') ∧
        ∀ x H', (IteT K a).yld i H x H' → g x σ H' fun σ2 H2 => tb { D with nx := N, ct := N, bk := D.nx } σ2 H2) := by
  refine ⟨fun i m σ H => m = xs.length - i ∧ i ≤ xs.length ∧ Pv i σ H, ⟨xs.length, by simp, Nat.zero_le _, h0⟩, ?_⟩
  rintro i m σ H ⟨rfl, hi, p⟩
  have q := hl i σ H hi p
  by_cases hlt : i < xs.length
  · refine .inr ⟨⟨xs, xs[i], q, by simp [hlt]⟩, Pv (i + 1), fun σ' H' p' => ⟨xs.length - (i + 1), by omega, rfl, hlt, p'⟩, fun x H' y => ?_⟩
    obtain ⟨T, u, ex, hT, eH, hu⟩ := y
    subst ex
    subst eH
    exact hs i u σ H T (hu xs q) p hT
  · have e : i = xs.length := by omega
    subst e
    exact .inl ⟨⟨xs, q, rfl⟩, hd σ H p⟩
/-- a call of a local name that holds one of several defs -/
def tCallR (i : Nat) (S : Addr → Sp → Prop) (t : TA) : TE := fun σ H Q => ∃ f sp, σ[i]? = some (some (.ref f)) ∧ S f sp ∧ t σ H fun vs H1 => sp vs H1 Q (fun _ _ _ => False)
section
variable {X : Cx} {k i : Nat} {x : Str} {p pos : Pos} {e : Expr} {es : List Expr} {t : TA}
theorem pe_callR {S : Addr → Sp → Prop} (A : ∀ f sp, S f sp → Held X.prog X.w X.K X.mg X.base k f sp) (hr : Room k X.A) (hN : X.N[i]? = some x) (hv : Vis X.env.scope x) (ha : PA X (e :: es) t)
    (hdb : (x == ("__debug__" : Str)) = false := by decide) (hcd : (x == ("__classdict__" : Str)) = false := by decide)
    (he : starEach (e :: es) X.env = (false, eval e X.env) :: starEach es X.env := by rfl) (hpl : (backTo pos (starEach es X.env)).any (·.1) = false := by rfl) :
    PE X (.Call (.Name x p) (e :: es) [] pos) (tCallR i S t) := by
  refine ⟨fun pins s σ H Q I h => ?_⟩
  obtain ⟨f, sp, h1, h2, h3⟩ := h
  exact (pe_callA (S := fun g => if g = f then some sp else none) (fun g sp' h => by
    split at h
    · rename_i e1
      cases h
      rw [e1]
      exact A f sp h2
    · cases h) hr hN hv ha hdb hcd he hpl).run pins s σ H Q I ⟨f, sp, h1, if_pos rfl, h3⟩
end
end Td
/-! A method whose first statement is super().__init__() with no more arguments. -/
namespace Td
open PySem PySem.Spec PyProof.Rows L2
/-- what is written of such a method: it stands at f in the class at C, its class cell at cc; g is the other class's __init__ -/
structure Sup (P : Program) (K : PySem.W.Frag) (qual : Str) (st : Stmt) (f C g : Addr) (fd : FuncData) : Prop where
  ex : ∃ (oc : Value) (od : Option Addr) (sl : Array (Option Value)) (kV doc pm : Value) (an : Option Addr) (ct : Value) (cc cda : Addr) (ccl : Value) (cdd : Option Addr) (vs : Array Value) (ccs : Array (Option Value)) (file : Str) (tf : Tok) (cl : Value) (cld : Option Addr) (csl : Array (Option Value)),
    fd = PySem.W.fnX "__init__" qual (defArgs st) (defBody st) (defScope st) [("__class__", cc)] .none kV doc pm an (.ref cda) ct ∧ K.lookup f = some ⟨oc, od, .func fd, sl⟩ ∧ PySem.W.codeIn K (.ref cda) qual = true ∧
    K.lookup cda = some ⟨ccl, cdd, .fields vs, ccs⟩ ∧ vs[2]? = some (.str file tf) ∧ ((P.main.file : Str) == file) = true ∧ K.lookup cc = some ⟨cl, cld, .cell (some (.ref C)), csl⟩
  cls : ∃ cd, PySem.W.clsIn K C = some cd
  mro : PySem.W.mroIn K C (.ref C) = some true
  up : PySem.W.ks_superIn K C C "__init__" = some (some (.ref g))
  ty : PySem.W.typeIn K (.ref g) = some (.type "function")
  fn : PySem.W.fnIn K g = true
  opq : PySem.W.nsIn K cStatics "thirdparty.any" = some none
  glob : PySem.W.nsIn K mainGlobals "super" = some none
  kp : PySem.W.keepIn K (.ref f) = true
def supNF (qual : Str) (st : Stmt) (cc cda : Addr) : NdefX.NF := ⟨"__init__", qual, defArgs st, defBody st, defScope st, [("__class__", cc)], cda⟩
theorem sup_tree {o : Expr} {m : Str} {ap cp : Pos} {env : PySem.Env} (hl : (ap.endLine == cp.line) = true) : eval (.Call (.Attribute o m ap) [] [] cp) env = (do
      let ov ← attributeBase o m env (eval o env)
      standAt ap.atName
      let (f, first) ← holding [ov] (getMethod ov m (plainOf o env))
      callWith cp f first (backTo cp (starEach [] env)) []) := by
  rw [arm_eval_Call]
  refine bind_congr fun ov => bind_congr fun _ => ?_
  exact mcall_line rfl hl
section
variable {P : Program} {w : World} {K : PySem.W.Frag} {mg : Str → Option Value} {base : Heap}
theorem Sup.binds {qual : Str} {st : Stmt} {f C g : Addr} {fd : FuncData} {ps : List Str} (F : Sup P K qual st f C g fd)
    (h : ∀ (kV doc pm : Value) (an : Option Addr) (cdv ct : Value) (cc : Addr) (us : List Value), us.length = ps.length → bindArgs (PySem.W.fnX "__init__" qual (defArgs st) (defBody st) (defScope st) [("__class__", cc)] .none kV doc pm an cdv ct) ⟨us, []⟩ = pure (ps.zip us)) : Binds K fd ps [] := by
  obtain ⟨oc, od, sl, kV, doc, pm, an, ct, cc, cda, ccl, cdd, vs, ccs, file, tf, cl, cld, csl, rfl, _⟩ := F.ex
  exact .all (h kV doc pm an (.ref cda) ct cc)
theorem fn_super {qual : Str} {st : Stmt} {f C g : Addr} {fd gd : FuncData} {N ps : List Str} {k : Nat} {sp spG : Sp} {p0 p1 ap cp ep : Pos} {rest : List Stmt} {ar : Arg} {us0 : List Str}
    (F : Sup P K qual st f C g fd) (hst : defBody st = .Expr (.Call (.Attribute (.Call (.Name "super" p0) [] [] p1) "__init__" ap) [] [] cp) ep :: rest)
    (S : NdefX.NScope N ps ["__class__"] (defScope st)) (hps : ps = ar.arg :: us0) (har : ((defArgs st).posonlyargs ++ (defArgs st).args).head? = some ar)
    (hline : (ap.endLine == cp.line) = true) (hks : (defScope st).names.lookup ("super" : Str) = some .globalImplicit) (htop : (P.main.scope.names.lookup ("super" : Str)).isSome = false)
    (G : FnOk P w K mg base CX0 k g gd [ar.arg] spG) (bG : Binds K gd [ar.arg] [])
    (len : ∀ vs H Q E, sp vs H Q E → vs.length = ps.length)
    (hbody : ∀ (A : Around) (outer : List PySem.Env) (s : Shared) (H : Hp) (vs : List V) (Q : VK) (E : XK) (cc cda : Addr), Room k (A.deeper (NdefX.envF (supNF qual st cc cda) f s.heap.objs.size)) → sp vs H Q E →
      ∃ (x dx : Addr) (fs : List (Str × V)) (vs' : List V), vs = .ref x :: vs' ∧ H x = some (.ins C dx fs) ∧ spG [.ref x] H (fun v H' => v = .non ∧
        ∃ t, PSs (NdefX.ncx CX0 P w K mg base N (supNF qual st cc cda) f A outer s H E) rest t ∧ t { nx := fun _ H' => Q .non H', rt := Q } (NdefX.startF N vs [none]) H') E0) :
    FnOk P w K mg base CX0 (k + 1) f fd ps sp := by
  refine ⟨len, fun A outer s H args us vs Q E hr e0 hb r hsp => ?_⟩
  obtain ⟨oc, od, sl, kV, doc, pm, an, ct, cc, cda, ccl, cdd, cvs, ccs, file, tf, cl, cld, csl, rfl, lk, hcd, lcd, hcv, hfile, lcc⟩ := F.ex
  have hl := len _ _ _ _ hsp
  have KX : K.In s.heap := e0.mod.kin.keeps fun b o e => (e0.bs b o e).1
  have lim : s.heap.NoLimit := e0.mod.nolimit.keeps fun b o e => (e0.bs b o e).1
  refine ks_codeAny_call_defAt hr.depth (KX _ _ lk) rfl lim (PySem.W.codeRec_of KX hcd) rfl hb S.nocell (fun ⟨n, _⟩ hy => S.par n (List.of_mem_zip hy).1) (fun h₁ hns kp => ?_) S.co S.gen S.kind
  show PySem.wpAt _ (A.deeper (NdefX.envF (supNF qual st cc cda) f s.heap.objs.size)) (.func (defBody st) (NdefX.envF (supNF qual st cc cda) f s.heap.objs.size)) (execs (defBody st) (NdefX.envF (supNF qual st cc cda) f s.heap.objs.size)) _ _ _
  have cells : NdefX.CellsAt (supNF qual st cc cda).cl ["__class__"] [none] s.heap H := by
    have one : ∀ y c, List.lookup y [(("__class__" : Str), cc)] = some c → y = "__class__" ∧ c = cc := fun y c e => by
      by_cases z : y = ("__class__" : Str)
      · subst z
        simp [List.lookup] at e
        exact ⟨rfl, e.symm⟩
      · have q : (y == ("__class__" : Str)) = false := by simpa using z
        simp [List.lookup, q] at e
    refine ⟨rfl, fun y c e => ?_, fun x y c e1 e2 => (one x c e1).1.trans (one y c e2).1.symm, fun i y e => ?_⟩
    · obtain ⟨_, rfl⟩ := one y c e
      exact ⟨(e0.bs _ _ (e0.mod.kin _ _ lcc)).2, some (.ref C), _, KX _ _ lcc, rfl⟩
    · cases i with
      | zero =>
        have ey : y = "__class__" := (Option.some.inj e).symm
        subst ey
        exact ⟨cc, by simp [supNF, List.lookup], fun v z => by simp at z⟩
      | succ n => simp at e
  have I : Inv (NdefX.ncx CX0 P w K mg base N (supNF qual st cc cda) f A outer s H E) [] (NdefX.startF N vs [none]) H { s with heap := h₁, toks := s.toks + (ps.zip us).length } := NdefX.inv_startN S hr.hd e0 hl r cells hns kp
  obtain ⟨x, dx, fs, vs', rfl, hx, hG⟩ := hbody A outer s H vs Q E cc cda (hr.deeper _) hsp
  cases r with
  | cons ru rr =>
    rename_i u0 us1
    obtain rfl : u0 = Value.ref x := ru
    have K1 : K.In h₁ := I.kIn
    obtain ⟨cd, hcls⟩ := F.cls
    obtain ⟨oD, hD1, hD2⟩ : ∃ oD, h₁.get? C = some oD ∧ oD.data = .cls cd := by
      unfold PySem.W.clsIn at hcls
      split at hcls
      · rename_i c d cd' sl' ho
        cases hcls
        exact ⟨_, K1 _ _ ho, rfl⟩
      · cases hcls
    obtain ⟨mA, O, _⟩ := ins_get I.hok hx
    obtain ⟨od1, J, _⟩ := O.look
    have nx : (NdefX.envF (supNF qual st cc cda) f s.heap.objs.size).kindOf "super" = some .globalImplicit := hks
    have nc : (NdefX.envF (supNF qual st cc cda) f s.heap.objs.size).kindOf "__class__" = some .free := S.frk _ (by simp)
    have ns : (NdefX.envF (supNF qual st cc cda) f s.heap.objs.size).kindOf ar.arg = some .local := S.par _ (by rw [hps]; simp)
    obtain ⟨mb, hb1, hb2⟩ := e0.mod.blt
    rw [hst]
    refine ks_wpAt_execs_cons (ks_wpAt_Expr_any ?_ I.quiet)
    refine ks_wpAt_MethodCall ?_ (sup_tree hline)
    refine ks_wpAt_super_base nx nc rfl rfl (K1 _ _ lk) rfl har rfl (K1 _ _ lcd) rfl hcv hfile htop ?_
    refine PySem.W.ks_loadName_global S.kind nx (Calls.loadGlobal_builtin (by exact e0.mod.glob.keeps I.bk) (PySem.W.mg_none_of e0.mod.kin e0.mod.glob F.glob) (by exact hb1.keeps I.bk) ((hb2 "super" (by decide)).trans (by decide +kernel : bootBuiltins "super" = some (.type "super"))) ⟨rfl, ?_⟩)
    refine wpAny_loadName_free S.kind nc rfl ⟨_, K1 _ _ lcc, rfl⟩ ?_
    refine wpAny_loadName_local S.kind ns hns (v := .ref x) ?_ ?_
    · rw [hps, List.zip_cons_cons, List.reverse_cons, List.lookup_append]
      have hn : (us0.zip us1).reverse.lookup ar.arg = none := by
        have nd := S.nd.sublist (List.take_sublist (ps.length + 1) N)
        have pre := S.pre
        rw [show (["__class__"] : List Str).length = 1 from rfl] at pre
        rw [pre, hps, List.cons_append] at nd
        exact NdefX.look_none fun v hv => (List.nodup_cons.mp nd).1 (List.mem_append_left _ (List.of_mem_zip (List.mem_reverse.mp hv)).1)
      rw [hn]
      simp [List.lookup]
    refine ks_wpAny_isType_cls hD1 hD2 ⟨rfl, ?_⟩
    refine ks_wpAny_call_super hD1 hD2 J.at_ J.cls (fun c e => by cases e) (PySem.W.looks_mroIn K1 F.mro) (fun h' eso k' => ?_)
    have K2 : K.In h' := K1.keeps k'
    have hgf : ∃ of, h'.get? g = some of ∧ of.cls = .type "function" := by
      have ht' : (K.lookup g).map (·.cls) = some (.type "function") := F.ty
      cases z : K.lookup g with
      | none => rw [z] at ht'; cases ht'
      | some of => rw [z] at ht'; exact ⟨of, K2 _ _ z, Option.some.inj ht'⟩
    obtain ⟨of, hof, hofc⟩ := hgf
    have hup := F.up
    unfold PySem.W.ks_superIn at hup
    rw [hcls] at hup
    refine ks_wpAny_getMethod_super eso (PySem.W.looks_opaque K2 F.opq) (l₀ := cd.mro) ?_ rfl K2 hup hof hofc (PySem.W.ks_ne K1 J hcls) rfl ?_
    · exact fun A Q E s k q => wpAny_bind ((PySem.W.looks_clsIn K2 hcls) A _ E s k (wpAny_pure q))
    have k3 : ∀ b o, h₁.get? b = some o → (h'.push { cls := .type "method", data := .fields #[.ref g, .ref x] }).get? b = some o := fun b o e => Heap.get?_push_of_some _ (k' b o e)
    have J2 := I.kept (t' := s.toks + (ps.zip (Value.ref x :: us1)).length + 1) k3
    refine PySem.W.callWith_M0 (g := g) (self := .ref x) (K := K) ⟨Heap.get?_push_at rfl rfl, J2.kIn⟩ F.fn (wpAny_call (ks_codeAny_call_bound (Heap.get?_push_at rfl rfl) ?_))
    refine codeAny_mono (G.run _ _ _ H ⟨[.ref x], []⟩ [.ref x] [.ref x] _ E0 (hr.deeper _) J2.env0 (bG _ [.ref x] J2.kIn rfl) (.cons rfl .nil) hG) fun r s' hq => ?_
    cases r with
    | error e => exact hq.elim
    | ok fl =>
      cases fl with
      | next => exact False.elim hq
      | brk => exact False.elim hq
      | cont => exact False.elim hq
      | ret u =>
        obtain ⟨v, H', J3, rv, ev, t, ht, hq3⟩ := J2.after hq
        refine PySem.wpAt_of_wpAny ?_
        refine wpAny_mono (ht.run [] s' _ H' _ J3 hq3) (fun fl s2 hs => ?_) fun e s2 hs => hs
        have fin : ∀ {σ' : L2.St} {H' : Hp} {v : V} {u : Value}, Inv (NdefX.ncx CX0 P w K mg base N (supNF qual st cc cda) f A outer s H E) [] σ' H' s2 → RelV v u → Q v H' → CE outer P w H s Q u s2 :=
          fun {σ' H' v u} J rv q => ⟨v, H', J.os, J.bare, J.base, J.hok, rv, q⟩
        cases fl with
        | ret u =>
          obtain ⟨v, σ', H', J, rv, q⟩ := hs
          exact fin J rv q
        | next =>
          obtain ⟨σ', H', J, q⟩ := hs
          exact fin (v := V.non) (u := Value.none) J rfl q
        | brk =>
          obtain ⟨_, _, _, q⟩ := hs
          exact False.elim q
        | cont =>
          obtain ⟨_, _, _, q⟩ := hs
          exact False.elim q
end
end Td
/-! Own exceptions of one field; several clauses with a name each; a datum in a tuple. -/
namespace Td
open PySem PySem.Spec PyProof.Rows L2
/-! ### a datum in a tuple of data -/
def rInDT (K : PySem.W.Frag) (neg : Bool) : R2 := fun x y H Q => ∃ d ds, Dp K H x d ∧ Dp K H y (.tuple ds) ∧ SeqAt.shaped d = true ∧ SeqAt.shaped (.tuple ds) = true ∧ Q (.bl (if neg then !(ds.any fun z => PyData.eqv z d) else ds.any fun z => PyData.eqv z d)) H
section
variable {X : Cx}
theorem op_inDT (hu : X.A.units + 65 < cLine) : OpR X (compareOp .In) (rInDT X.K false) := by
  rintro pins s σ H x y v u Q I rx ry ⟨d, ds, h1, h2, e1, e2, q⟩
  obtain ⟨la, ra⟩ := Dp.reads I d x v h1 rx
  obtain ⟨lb, rb⟩ := Dp.reads I (.tuple ds) y u h2 ry
  exact SeqAt.in_tuple_reads rb ra (SeqAt.canLay_of_shaped e2) (SeqAt.canLay_of_shaped e1) (room_in_shaped e1 hu) ⟨.bl _, H, I, rfl, q⟩
end
theorem units65 {k : Nat} {A : Around} (r : Room k A) : A.units + 65 < cLine := by have := r.un; omega
/-! ### an own exception of one field -/
def spExc (K : PySem.W.Frag) (C : Addr) : Str → Sp := fun f vs H Q _ => ∃ (a : Addr) (y : V), vs = [.ref a, y] ∧ H a = some (exo a C none) ∧
  ∀ dx H', H dx = none → dx ≠ a → H' = upd (upd H dx (exd dx [(f, y)])) a (exo a C (some dx)) → Q .non H'
/-- what a raise wants of the way out -/
def Rz (C : Addr) (f : Str) (y : V) (H : Hp) (E : XK) : Prop := ∀ (d : Addr) (H' : Hp), Same H H' → H d = none → H' d = some (.xd [(f, y)]) → E (.ref C) (some d) H'
theorem Rz.later {C : Addr} {f : Str} {y : V} {H H1 : Hp} {E : XK} (r : Rz C f y H E) (s : Same H H1) : Rz C f y H1 E := fun d H' s' hd e => by
  refine r d H' (s.trans s') ?_ e
  cases z : H d with
  | none => rfl
  | some o => rw [s _ _ z] at hd; cases hd
theorem one_field {H : Hp} {a C dx : Addr} {f : Str} {y : V} (ha : H a = none) (hx : dx ≠ a) :
    upd (del (upd (upd (upd H a (exo a C none)) dx (exd dx [(f, y)])) a (exo a C (some dx))) a) dx (.xd [(f, y)]) = upd H dx (.xd [(f, y)]) := by
  funext b
  by_cases h1 : b = dx
  · rw [h1, upd_same, upd_same]
  · rw [upd_ne h1, upd_ne h1]
    by_cases h2 : b = a
    · rw [h2, del_same, ha]
    · rw [del_ne h2, upd_ne h2, upd_ne h1, upd_ne h2]
/-- the making of such an exception, with its argument at hand -/
theorem made_one {K : PySem.W.Frag} {C : Addr} {f : Str} {y : V} {H : Hp} {Q : XK} (q : Rz C f y H Q) : [y].length ≤ 1000 ∧ ∀ a, H a = none → spExc K C f (.ref a :: ([y] ++ [])) (upd H a (exo a C none))
    (fun v H2 => v = .non ∧ ∃ (d : Addr) (fs : List (Str × V)), H2 a = some (exo a C (some d)) ∧ H2 d = some (exd d fs) ∧ H d = none ∧ Q (.ref C) (some d) (upd (del H2 a) d (.xd fs))) (fun _ _ _ => False) := by
  refine ⟨by show 1 ≤ 1000; decide, fun a ha => ⟨a, y, rfl, upd_same, fun dx H' hdx hne e => ⟨rfl, dx, [(f, y)], ?_, ?_, ?_, ?_⟩⟩⟩
  · rw [e]; exact upd_same
  · rw [e, upd_ne hne]; exact upd_same
  · rw [upd_ne hne] at hdx; exact hdx
  · have hd : H dx = none := by rw [upd_ne hne] at hdx; exact hdx
    rw [e, one_field ha hne]
    exact q dx _ (Same.new hd _) hd upd_same
/-! ### try: .. except A as e: .. except B as e: .. -/
abbrev SuiteT : Type := Addr → Value → Option Addr → TS
/-- D, slot i emptied ahead of it -/
def emptied (i : Nat) (D : Ends) : Ends := { nx := fun τ G => D.nx (τ.set i none) G, rt := D.rt, bk := fun τ G => D.bk (τ.set i none) G, ct := fun τ G => D.ct (τ.set i none) G }
def wAsL (K : PySem.W.Frag) (Wout : WX) (D : Ends) : List (Value × Nat × SuiteT) → WX
  | [] => Wout
  | q :: r => fun cls d σ H => ∃ b, PySem.W.exmOne K cls q.1 = some b ∧ (b = true → ∀ a, H a = none → q.2.2 a cls d (emptied q.2.1 D) (σ.set q.2.1 (some (.ref a))) H) ∧ (b = false → wAsL K Wout D r cls d σ H)
inductive Clauses (X : Cx) : List ExceptHandler → List (Value × Nat × SuiteT) → Prop
  | none : Clauses X [] []
  | more {x n : Str} {c : Value} {i : Nat} {t : SuiteT} {st : Stmt} {sts : List Stmt} {p p' : Pos} {hs : List ExceptHandler} {l : List (Value × Nat × SuiteT)} (hi : X.N[i]? = some n) (hn : X.env.kindOf n = some .local) (hc : L2.Names X x c)
      (go : ∀ (a : Addr) (o : Obj) (cls : Value) (d : Option Addr) (pn : List (Addr × Obj)), Zc cls d o → (∃ vs, o.data = .fields vs) → PSs (X.suite a ((a, o) :: pn)) (st :: sts) (t a cls d)) (r : Clauses X hs l) :
      Clauses X (.ExceptHandler (some (.Name x p)) (some n) (st :: sts) p' :: hs) ((c, i, t) :: l)
section
variable {X : Cx}
theorem ps_try_asL {body : List Stmt} {h : ExceptHandler} {hs : List ExceptHandler} {l : List (Value × Nat × SuiteT)} {pos : Pos} {tb : WX → TS} {Wout : WX} (h1 : X.stack = X.env :: X.outer) (h2 : X.env.frame = some X.env.locals) (nd : X.N.Nodup) (tk : Takes X Wout)
    (hb : ∀ (W : WX) (pn : List (Addr × Obj)) (xe : Value → Shared → Prop), Takes (X.tr pn xe) W → PassesOwn (model X.prog X.w) X.A X.env xe → PSs (X.tr pn xe) body (tb W))
    (hh : Clauses X (h :: hs) l) : PS X (.Try body (h :: hs) [] [] pos) (fun D σ H => tb (wAsL X.K Wout D l) D σ H) := by
  constructor
  intro pins s σ H D I want
  have okX := I.ok
  have frX : X.A.frames = some (X.env :: X.outer) := okX.frames.trans (congrArg some h1)
  refine wpAny_Try_except (wpAny_mono ((hb (wAsL X.K Wout D l) (X.pn ++ pins) (fun e s₁ => wpAny (model X.prog X.w) X.A (noteFrame e X.env) (fun _ s₂ => wpAny (model X.prog X.w) X.A (setFlight e none)
    (fun _ s₃ => wpAny (model X.prog X.w) X.A (handleBy e X.env (h :: hs)) (SP X pins D) X.xe s₃) X.xe s₂) X.xe s₁) (fun u s1 got => ?_) PassesOwn.looking).run [] s σ H D (I.toTry _) want) (fun fl s1 fin => ?_) fun _ _ z => z)
  · obtain ⟨a, B, sI, pins', τ, G, cls, d, rfl, J0, nb, up, sky, na, os, ag, w⟩ := got
    have J := J0.ofTry okX
    rw [h1] at sky
    show wpAny (model X.prog X.w) X.A (noteFrame (.ref a) X.env) _ _ _
    refine Sky.land Zc.steady frX h2 sky fun hp fly up1 => ?_
    have JP : Inv X pins τ G { s1 with heap := hp } := J.landed nb fly.1 (up.trans up1) os ag
    obtain ⟨o, vs, ho, hz, hd⟩ := fly.there
    have off : a ∉ frs (X.env :: X.outer) := fun m => by
      obtain ⟨_, o', e', nf⟩ := fly.2.2.1.mem m
      rw [ho] at e'
      cases e'
      exact nf _ hd
    have offL : a ≠ X.env.locals := fun z => off (List.mem_filterMap.mpr ⟨X.env, List.mem_cons_self, by rw [h2, z]⟩)
    have offF : a ∉ X.fs := fun m => by
      obtain ⟨ev, he, q⟩ := List.mem_filterMap.mp m
      exact off (List.mem_filterMap.mpr ⟨ev, List.mem_cons_of_mem _ he, q⟩)
    have SP0 := JP.suite ho hd na offL offF
    suffices all : ∀ {hs' : List ExceptHandler} {l' : List (Value × Nat × SuiteT)}, Clauses X hs' l' → wAsL X.K Wout D l' cls d τ G → wpAny (model X.prog X.w) X.A (handleBy (.ref a) X.env hs') (SP X pins D) X.xe { s1 with heap := hp } from all hh w
    intro hs' l' cl
    induction cl with
    | none =>
      intro w0
      refine wpAny_handleBy_nil ?_
      obtain ⟨_, _, _, o1, vs1, T, _, _, ho1, _, hd1, hv1, _⟩ := id fly
      unfold PySem.passOn
      refine wpAny_bind (wpAny_field ho1 hd1 hv1 ?_)
      rw [if_neg (show ¬ ((Value.ref T == Value.none) = true) by simp)]
      have away : wpAny (model X.prog X.w) X.A (setFlight (.ref a) X.env.frame) (fun _ s4 => wpAny (model X.prog X.w) X.A (throw (.ref a) : Sem Flow) (SP X pins D) X.xe s4) X.xe { s1 with heap := hp } := by
        rw [h2]
        exact HandSPX.setFlight_upZ fly fun hq kq uq => wpAny_throw (tk _ _ ⟨a, B, sI, pins, τ, G, cls, d, rfl, J, nb, (up.trans up1).trans uq, .inr (.inr (by rw [h1]; exact kq)), na, os, ag, w0⟩)
      first
        | exact wpAny_bind (wpAny_pure (wpAny_bind away))
        | exact wpAny_bind away
    | @more x n c i t st sts p p' hs2 l2 hi hn hc go r ih =>
      intro w0
      obtain ⟨b, hm, yes, no⟩ := w0
      refine wpAny_handleBy_cons (codeAny_handlers_test ?_) (by intro q; cases q)
      have tyA : PySem.W.Looks (model X.prog X.w) hp (typeOf (.ref a)) cls := fun _ _ _ _ k q => wpAny_typeOf_ref (k _ _ ho) (by rw [hz.1]; exact q)
      have mt := PySem.W.exm_one (M := model X.prog X.w) JP.kIn tyA hm
      have name : ∀ {Q : Value → Shared → Prop} {E : Value → Shared → Prop}, Q c { s1 with heap := hp } → wpAny (model X.prog X.w) (X.A.mark (some (.ref a))) (eval (.Name x p) X.env) Q E { s1 with heap := hp } := fun q => by
        rcases hc with ⟨hg, hdb, hm1 | ⟨hm1, hv1, hn1⟩⟩
        · exact ld_glob (X := X.suite a ((a, o) :: (X.pn ++ pins))) SP0 hg hm1 q hdb
        · exact ld_blt (X := X.suite a ((a, o) :: (X.pn ++ pins))) SP0 hg hm1 hv1 q hn1 hdb
      refine name (mt.here ?_)
      cases b with
      | false => exact ih (no rfl)
      | true =>
        refine codeAny_handlers_suite_as (HandSPX.lands_againZ fly fun hq fq uq => ?_)
        have JQ : Inv X pins τ G { s1 with heap := hq } := J.landed nb fq.1 ((up.trans up1).trans uq) os ag
        obtain ⟨oq, vq, hoq, hzq, hdq⟩ := fq.there
        refine store_ok (X := X.suite a ((a, oq) :: (X.pn ++ pins))) (v := .ref a) (JQ.suite hoq hdq na offL offF) nd hi (.inl hn) rfl (fun s5 S5 => ?_) (.inr hn)
        refine wpAny_mono ((go a oq cls d (X.pn ++ pins) hzq ⟨_, hdq⟩).run [] s5 _ G _ S5 (yes rfl a na)) (fun fl s6 e6 => ?_) fun _ _ z => z.elim
        have gone : ∀ {τ6 : L2.St} {G6 : Hp} {Q : Shared → Prop}, Inv (X.suite a ((a, oq) :: (X.pn ++ pins))) [] τ6 G6 s6 → (∀ s7, Inv X pins (τ6.set i none) G6 s7 → Q s7) →
            wpAny (model X.prog X.w) X.A (do bindName X.env n .none; unbindBehindTheSuite X.env n p') (fun _ s7 => Q s7) X.xe s6 := fun S6 hq => gone_ok (S6.unsuite okX) nd hi hn hq
        cases fl with
        | next => exact let ⟨_, _, S6, q6⟩ := e6; gone S6 fun _ J7 => ⟨_, _, J7, q6⟩
        | brk => exact let ⟨_, _, S6, q6⟩ := e6; gone S6 fun _ J7 => ⟨_, _, J7, q6⟩
        | cont => exact let ⟨_, _, S6, q6⟩ := e6; gone S6 fun _ J7 => ⟨_, _, J7, q6⟩
        | ret u => exact let ⟨_, _, _, S6, r6, q6⟩ := e6; gone S6 fun _ J7 => ⟨_, _, _, J7, r6, q6⟩
  · cases fl with
    | next => exact let ⟨τ, G, J, q⟩ := fin; wpAny_execs_nil ⟨τ, G, J.ofTry okX, q⟩
    | brk => exact let ⟨τ, G, J, q⟩ := fin; ⟨τ, G, J.ofTry okX, q⟩
    | cont => exact let ⟨τ, G, J, q⟩ := fin; ⟨τ, G, J.ofTry okX, q⟩
    | ret u => exact let ⟨v, τ, G, J, r, q⟩ := fin; ⟨v, τ, G, J.ofTry okX, r, q⟩
end
end Td
/-! What a true run does. -/
namespace Td
open PySem PySem.Spec PyProof.Rows L2
abbrev Env := List (Str × Str)
def kv (L : Env) : List (Key × V) := L.map fun p => (.inr p.1, V.str p.2)
def getE (L : Env) (k : Str) : Option Str := (L.find? fun p => decide (p.1 = k)).map (·.2)
def putE (L : Env) (k v : Str) : Env := if (L.any fun p => decide (p.1 = k)) = true then L.map (fun p => if p.1 = k then (p.1, v) else p) else L ++ [(k, v)]
def sdE (L : Env) (k v : Str) : Env := if (getE L k).isSome = true then L else putE L k v
theorem kv_len (L : Env) : (kv L).length = L.length := List.length_map _
theorem inr_iff (a b : Str) : (Sum.inr a : Key) = .inr b ↔ a = b := ⟨fun h => Sum.inr.inj h, fun h => by rw [h]⟩
theorem kv_get (L : Env) (k : Str) : valV (kv L) (.inr k : Key) = (getE L k).map V.str := by
  unfold valV getE kv
  induction L with
  | nil => rfl
  | cons p r ih =>
    rw [List.map_cons, List.find?_cons, List.find?_cons]
    by_cases h : p.1 = k
    · simp [h]
    · have h2 : ¬ ((Sum.inr p.1 : Key) = .inr k) := fun e => h (Sum.inr.inj e)
      simp only [decide_eq_false h, decide_eq_false h2]
      exact ih
theorem kv_any (L : Env) (k : Str) : ((kv L).any fun q => decide (q.1 = (.inr k : Key))) = L.any fun p => decide (p.1 = k) := by
  unfold kv
  induction L with
  | nil => rfl
  | cons p r ih =>
    rw [List.map_cons, List.any_cons, List.any_cons, ih]
    congr 1
    exact decide_eq_decide.mpr (inr_iff _ _)
theorem kv_put (L : Env) (k v : Str) : putK (kv L) (.inr k : Key) (.str v) = kv (putE L k v) := by
  unfold putK putE
  rw [kv_any]
  by_cases h : (L.any fun p => decide (p.1 = k)) = true
  · rw [if_pos h, if_pos h]
    unfold kv
    rw [List.map_map, List.map_map]
    refine List.map_congr_left fun p _ => ?_
    show (if (Sum.inr p.1 : Key) = .inr k then _ else _) = _
    by_cases e : p.1 = k
    · have e2 : (Sum.inr p.1 : Key) = .inr k := by rw [e]
      rw [if_pos e2]
      show _ = ((Sum.inr (if p.1 = k then (p.1, v) else p).1 : Key), V.str (if p.1 = k then (p.1, v) else p).2)
      rw [if_pos e]
    · have e2 : ¬ (Sum.inr p.1 : Key) = .inr k := fun h => e (Sum.inr.inj h)
      rw [if_neg e2]
      show _ = ((Sum.inr (if p.1 = k then (p.1, v) else p).1 : Key), V.str (if p.1 = k then (p.1, v) else p).2)
      rw [if_neg e]
  · rw [if_neg h, if_neg h]
    unfold kv
    rw [List.map_append]
    rfl
theorem putE_len (L : Env) (k v : Str) : (putE L k v).length ≤ L.length + 1 := by
  unfold putE
  split
  · rw [List.length_map]; omega
  · rw [List.length_append]; exact Nat.le_refl _
theorem sdE_len (L : Env) (k v : Str) : (sdE L k v).length ≤ L.length + 1 := by
  unfold sdE
  split
  · omega
  · exact putE_len ..
theorem getE_any (k : Str) : ∀ L : Env, (L.any fun p => decide (p.1 = k)) = (getE L k).isSome
  | [] => rfl
  | p :: r => by
    rw [List.any_cons]
    unfold getE
    rw [List.find?_cons]
    by_cases e : p.1 = k
    · simp [e]
    · simp only [decide_eq_false e, Bool.false_or]
      exact getE_any k r
theorem getE_cons (p : Str × Str) (r : Env) (k : Str) : getE (p :: r) k = if p.1 = k then some p.2 else getE r k := by
  unfold getE
  rw [List.find?_cons]
  by_cases e : p.1 = k
  · simp [e]
  · simp [e]
theorem getE_put (L : Env) (k v j : Str) : getE (putE L k v) j = if j = k then some v else getE L j := by
  unfold putE
  split
  · rename_i h
    induction L with
    | nil => simp at h
    | cons p r ih =>
      rw [List.map_cons, getE_cons, getE_cons]
      by_cases e : p.1 = k
      · rw [if_pos e]
        by_cases ej : j = k
        · subst ej; simp [e]
        · have : ¬ p.1 = j := fun h => ej (by rw [← h, e])
          rw [if_neg this, if_neg this, if_neg ej]
          by_cases hr : (r.any fun p => decide (p.1 = k)) = true
          · rw [ih hr, if_neg ej]
          · have hr2 : r.map (fun p => if p.1 = k then (p.1, v) else p) = r := by
              conv => rhs; rw [← List.map_id r]
              refine List.map_congr_left fun q hq => ?_
              rw [if_neg]
              · rfl
              · intro e2
                exact hr (List.any_eq_true.mpr ⟨q, hq, decide_eq_true e2⟩)
            rw [hr2]
      · rw [if_neg e]
        have hr : (r.any fun p => decide (p.1 = k)) = true := by
          rw [List.any_cons, decide_eq_false e, Bool.false_or] at h
          exact h
        rw [ih hr]
        by_cases ej : p.1 = j
        · rw [if_pos ej, if_pos ej, if_neg (fun h => e (by rw [ej, h]))]
        · rw [if_neg ej, if_neg ej]
  · rename_i h
    have hn : getE L k = none := by
      rw [getE_any] at h
      cases e : getE L k with
      | none => rfl
      | some z => rw [e] at h; exact absurd rfl h
    induction L with
    | nil => rw [List.nil_append, getE_cons]; by_cases ej : j = k
             · subst ej; simp
             · rw [if_neg (fun e => ej e.symm), if_neg ej]
    | cons p r ih =>
      rw [List.cons_append, getE_cons, getE_cons]
      rw [getE_cons] at hn
      by_cases e : p.1 = k
      · rw [if_pos e] at hn; cases hn
      · rw [if_neg e] at hn
        have hr : ¬ (r.any fun p => decide (p.1 = k)) = true := by rw [getE_any, hn]; simp
        rw [ih hr hn]
        by_cases ej : p.1 = j
        · rw [if_pos ej, if_pos ej, if_neg (fun h => e (by rw [ej, h]))]
        · rw [if_neg ej, if_neg ej]
/-! ### a run -/
structure RS where
  slots : Env
  noted : Env
  peeked : Env
  said : List Str
  written : Env
  given : Str
def RS.word (st : RS) (d s : Str) : Str := (getE st.slots s).getD d
mutual
def runR (kn : Str → Str) (d : Str) : Row → RS → RS × Bool
  | .rd pk c s, st => ({ st with slots := putE st.slots s (kn c), noted := (if pk then st.noted else sdE st.noted c (kn c)), peeked := (if pk then sdE st.peeked c (kn c) else st.peeked) }, false)
  | .put s u, st => ({ st with slots := putE st.slots s u }, false)
  | .give s, st => ({ st with given := st.word d s }, true)
  | .say s, st => ({ st with said := st.said ++ [st.word d s] }, false)
  | .wr c s, st => ({ st with written := st.written ++ [(c, st.word d s)] }, false)
  | .ite s u y n, st => if st.word d s = u then runRs kn d y st else runRs kn d n st
def runRs (kn : Str → Str) (d : Str) : List Row → RS → RS × Bool
  | [], st => (st, false)
  | r :: rs, st => if (runR kn d r st).2 = true then ((runR kn d r st).1, true) else runRs kn d rs (runR kn d r st).1
end
theorem runRs_yes {kn : Str → Str} {d : Str} {r : Row} {st : RS} (rs : List Row) (h : (runR kn d r st).2 = true) : runRs kn d (r :: rs) st = ((runR kn d r st).1, true) := by simp only [runRs, if_pos h]
theorem runRs_no {kn : Str → Str} {d : Str} {r : Row} {st : RS} (rs : List Row) (h : ¬ (runR kn d r st).2 = true) : runRs kn d (r :: rs) st = runRs kn d rs (runR kn d r st).1 := by simp only [runRs, if_neg h]
theorem runRs_append (kn : Str → Str) (d : Str) : ∀ (rs ts : List Row) (st : RS), runRs kn d (rs ++ ts) st = if (runRs kn d rs st).2 = true then runRs kn d rs st else runRs kn d ts (runRs kn d rs st).1
  | [], ts, st => by
    show runRs kn d ts st = _
    simp [runRs]
  | r :: rs, ts, st => by
    show runRs kn d (r :: (rs ++ ts)) st = _
    by_cases h : (runR kn d r st).2 = true
    · simp only [runRs_yes _ h, if_true]
    · simp only [runRs_no _ h]
      exact runRs_append kn d rs ts _
theorem runRs_next {kn : Str → Str} {d : Str} {rs : List Row} {st : RS} {i : Nat} {r : Row} (h : rs[i]? = some r) (hf : (runRs kn d (rs.take i) st).2 = false) :
    runRs kn d (rs.take (i + 1)) st = runR kn d r (runRs kn d (rs.take i) st).1 := by
  rw [take_more h, runRs_append, hf]
  simp only [runRs, if_neg (Bool.false_ne_true)]
  by_cases h2 : (runR kn d r (runRs kn d (rs.take i) st).1).2 = true
  · rw [if_pos h2]
    exact Prod.ext rfl h2.symm
  · rw [if_neg h2]
    exact Prod.ext rfl (by simpa using h2)
theorem runRs_stop {kn : Str → Str} {d : Str} {rs : List Row} {st : RS} {i : Nat} {r : Row} (h : rs[i]? = some r) (hf : (runRs kn d (rs.take i) st).2 = false)
    (ht : (runR kn d r (runRs kn d (rs.take i) st).1).2 = true) : runRs kn d rs st = runR kn d r (runRs kn d (rs.take i) st).1 := by
  have e : rs = rs.take (i + 1) ++ rs.drop (i + 1) := (List.take_append_drop _ _).symm
  have e2 := runRs_next h hf
  rw [e, runRs_append, ← e, e2, if_pos ht]
/-- no list of the run is long -/
structure RS.Few (st : RS) (n : Nat) : Prop where
  sl : st.slots.length ≤ n
  no : st.noted.length ≤ n
  pe : st.peeked.length ≤ n
  sa : st.said.length ≤ n
  wr : st.written.length ≤ n
theorem RS.Few.mono {st : RS} {n m : Nat} (h : st.Few n) (l : n ≤ m) : st.Few m := ⟨Nat.le_trans h.sl l, Nat.le_trans h.no l, Nat.le_trans h.pe l, Nat.le_trans h.sa l, Nat.le_trans h.wr l⟩
mutual
theorem few_R (kn : Str → Str) (d : Str) : ∀ (r : Row) (st : RS) (n : Nat), st.Few n → (runR kn d r st).1.Few (n + Td.cnt r)
  | .rd pk c s, st, n, h => by
    have h1 := putE_len st.slots s (kn c)
    have h2 := sdE_len st.noted c (kn c)
    have h3 := sdE_len st.peeked c (kn c)
    have a := h.sl; have b := h.no; have c' := h.pe; have d' := h.sa; have e := h.wr
    cases pk <;> simp only [runR, Td.cnt] <;> refine ⟨?_, ?_, ?_, ?_, ?_⟩ <;> simp <;> omega
  | .put s u, st, n, h => by
    have h1 := putE_len st.slots s u
    have a := h.sl; have b := h.no; have c' := h.pe; have d' := h.sa; have e := h.wr
    simp only [runR, Td.cnt]; refine ⟨?_, ?_, ?_, ?_, ?_⟩ <;> simp <;> omega
  | .give s, st, n, h => by
    have a := h.sl; have b := h.no; have c' := h.pe; have d' := h.sa; have e := h.wr
    simp only [runR, Td.cnt]; refine ⟨?_, ?_, ?_, ?_, ?_⟩ <;> simp <;> omega
  | .say s, st, n, h => by
    have a := h.sl; have b := h.no; have c' := h.pe; have d' := h.sa; have e := h.wr
    simp only [runR, Td.cnt]; refine ⟨?_, ?_, ?_, ?_, ?_⟩ <;> simp <;> omega
  | .wr c s, st, n, h => by
    have a := h.sl; have b := h.no; have c' := h.pe; have d' := h.sa; have e := h.wr
    simp only [runR, Td.cnt]; refine ⟨?_, ?_, ?_, ?_, ?_⟩ <;> simp <;> omega
  | .ite s u y m, st, n, h => by
    simp only [runR, Td.cnt]
    split
    · exact (few_Rs kn d y st n h).mono (by omega)
    · exact (few_Rs kn d m st n h).mono (by omega)
theorem few_Rs (kn : Str → Str) (d : Str) : ∀ (rs : List Row) (st : RS) (n : Nat), st.Few n → (runRs kn d rs st).1.Few (n + cnts rs)
  | [], st, n, h => by simp only [runRs]; exact h.mono (Nat.le_add_right _ _)
  | r :: rs, st, n, h => by
    have h1 := few_R kn d r st n h
    simp only [runRs, cnts]
    split
    · exact h1.mono (by omega)
    · exact (few_Rs kn d rs _ _ h1).mono (by omega)
end
/-! ### the run's object -/
structure RA where
  ra : Addr
  kd : Addr
  ps : Addr
  pn : Addr
  pp : Addr
  pd : Addr
  pw : Addr
  d : Str
def RA.fldsV (A : RA) (v : V) : List (Str × V) := [("noted", .ref A.pn), ("peeked", .ref A.pp), ("said", .ref A.pd), ("written", .ref A.pw), ("given", v), ("default", .str A.d), ("known", .ref A.kd), ("slots", .ref A.ps)]
def RA.flds (A : RA) (g : Str) : List (Str × V) := A.fldsV (.str g)
def wrD (p : Str × Str) : PyData := .tuple [.str p.1, .str p.2]
structure RunAt (K : PySem.W.Frag) (C : Addr) (A : RA) (H0 H : Hp) (st : RS) : Prop where
  same : Same H0 H
  f0 : H0 A.ra = none
  f1 : H0 A.ps = none
  f2 : H0 A.pn = none
  f3 : H0 A.pp = none
  f4 : H0 A.pd = none
  f5 : H0 A.pw = none
  n1 : A.ps ≠ A.pn
  n2 : A.ps ≠ A.pp
  n3 : A.pn ≠ A.pp
  n4 : A.pd ≠ A.pw
  ob : ∃ dx, H A.ra = some (.ins C dx (A.flds st.given))
  sl : H A.ps = some (.dK (kv st.slots))
  no : H A.pn = some (.dK (kv st.noted))
  pe : H A.pp = some (.dK (kv st.peeked))
  sa : H A.pd = some (.lst (st.said.map V.str))
  wr : ∃ xs, H A.pw = some (.lst xs) ∧ TnAll K H xs (st.written.map wrD)
section
variable {K : PySem.W.Frag} {C : Addr} {A : RA} {H0 H H' : Hp} {st : RS}
theorem own_same {H0 H : Hp} {p : Addr} {o : HO} (k : Same H0 H) (h : H0 p = none) : Same H0 (upd H p o) := fun b u e => by
  rw [upd_ne (ne_of_none e h)]; exact k b u e
theorem RunAt.go (h : RunAt K C A H0 H st) (s : Same H H') : RunAt K C A H0 H' st := by
  obtain ⟨dx, e⟩ := h.ob
  obtain ⟨xs, e1, e2⟩ := h.wr
  exact ⟨h.same.trans s, h.f0, h.f1, h.f2, h.f3, h.f4, h.f5, h.n1, h.n2, h.n3, h.n4, ⟨dx, s _ _ e⟩, s _ _ h.sl, s _ _ h.no, s _ _ h.pe, s _ _ h.sa, ⟨xs, s _ _ e1, TnAll.keep (TK.of_same s) e2⟩⟩
theorem RunAt.slots (h : RunAt K C A H0 H st) (L : Env) : RunAt K C A H0 (upd H A.ps (.dK (kv L))) { st with slots := L } := by
  obtain ⟨dx, e⟩ := h.ob
  obtain ⟨xs, e1, e2⟩ := h.wr
  exact ⟨own_same h.same h.f1, h.f0, h.f1, h.f2, h.f3, h.f4, h.f5, h.n1, h.n2, h.n3, h.n4, ⟨dx, by rw [upd_ne (ne_of e h.sl (by intro z; cases z))]; exact e⟩, upd_same, by rw [upd_ne (Ne.symm h.n1)]; exact h.no, by rw [upd_ne (Ne.symm h.n2)]; exact h.pe,
    by rw [upd_ne (ne_of h.sa h.sl (by intro z; cases z))]; exact h.sa, ⟨xs, by rw [upd_ne (ne_of e1 h.sl (by intro z; cases z))]; exact e1, TnAll.keep (TK.upd (by rw [h.sl]; trivial)) e2⟩⟩
theorem RunAt.noted (h : RunAt K C A H0 H st) (L : Env) : RunAt K C A H0 (upd H A.pn (.dK (kv L))) { st with noted := L } := by
  obtain ⟨dx, e⟩ := h.ob
  obtain ⟨xs, e1, e2⟩ := h.wr
  exact ⟨own_same h.same h.f2, h.f0, h.f1, h.f2, h.f3, h.f4, h.f5, h.n1, h.n2, h.n3, h.n4, ⟨dx, by rw [upd_ne (ne_of e h.no (by intro z; cases z))]; exact e⟩, by rw [upd_ne h.n1]; exact h.sl, upd_same, by rw [upd_ne (Ne.symm h.n3)]; exact h.pe,
    by rw [upd_ne (ne_of h.sa h.no (by intro z; cases z))]; exact h.sa, ⟨xs, by rw [upd_ne (ne_of e1 h.no (by intro z; cases z))]; exact e1, TnAll.keep (TK.upd (by rw [h.no]; trivial)) e2⟩⟩
theorem RunAt.peeked (h : RunAt K C A H0 H st) (L : Env) : RunAt K C A H0 (upd H A.pp (.dK (kv L))) { st with peeked := L } := by
  obtain ⟨dx, e⟩ := h.ob
  obtain ⟨xs, e1, e2⟩ := h.wr
  exact ⟨own_same h.same h.f3, h.f0, h.f1, h.f2, h.f3, h.f4, h.f5, h.n1, h.n2, h.n3, h.n4, ⟨dx, by rw [upd_ne (ne_of e h.pe (by intro z; cases z))]; exact e⟩, by rw [upd_ne h.n2]; exact h.sl, by rw [upd_ne h.n3]; exact h.no, upd_same,
    by rw [upd_ne (ne_of h.sa h.pe (by intro z; cases z))]; exact h.sa, ⟨xs, by rw [upd_ne (ne_of e1 h.pe (by intro z; cases z))]; exact e1, TnAll.keep (TK.upd (by rw [h.pe]; trivial)) e2⟩⟩
theorem RunAt.say (h : RunAt K C A H0 H st) (L : List Str) : RunAt K C A H0 (upd H A.pd (.lst (L.map V.str))) { st with said := L } := by
  obtain ⟨dx, e⟩ := h.ob
  obtain ⟨xs, e1, e2⟩ := h.wr
  exact ⟨own_same h.same h.f4, h.f0, h.f1, h.f2, h.f3, h.f4, h.f5, h.n1, h.n2, h.n3, h.n4, ⟨dx, by rw [upd_ne (ne_of e h.sa (by intro z; cases z))]; exact e⟩, by rw [upd_ne (ne_of h.sl h.sa (by intro z; cases z))]; exact h.sl, by rw [upd_ne (ne_of h.no h.sa (by intro z; cases z))]; exact h.no,
    by rw [upd_ne (ne_of h.pe h.sa (by intro z; cases z))]; exact h.pe, upd_same, ⟨xs, by rw [upd_ne (Ne.symm h.n4)]; exact e1, TnAll.keep (TK.upd (by rw [h.sa]; trivial)) e2⟩⟩
theorem RunAt.write (h : RunAt K C A H0 H st) {xs : List V} {L : Env} (e1 : H A.pw = some (.lst xs)) {ys : List V} (e2 : TnAll K H ys (L.map wrD)) : RunAt K C A H0 (upd H A.pw (.lst ys)) { st with written := L } := by
  obtain ⟨dx, e⟩ := h.ob
  exact ⟨own_same h.same h.f5, h.f0, h.f1, h.f2, h.f3, h.f4, h.f5, h.n1, h.n2, h.n3, h.n4, ⟨dx, by rw [upd_ne (ne_of e e1 (by intro z; cases z))]; exact e⟩, by rw [upd_ne (ne_of h.sl e1 (by intro z; cases z))]; exact h.sl, by rw [upd_ne (ne_of h.no e1 (by intro z; cases z))]; exact h.no,
    by rw [upd_ne (ne_of h.pe e1 (by intro z; cases z))]; exact h.pe, by rw [upd_ne h.n4]; exact h.sa, ⟨ys, upd_same, TnAll.keep (TK.upd (by rw [e1]; trivial)) e2⟩⟩
theorem RunAt.give (h : RunAt K C A H0 H st) (g : Str) {dx : Addr} (e : H A.ra = some (.ins C dx (A.flds st.given))) : RunAt K C A H0 (upd H A.ra (.ins C dx (A.flds g))) { st with given := g } := by
  obtain ⟨xs, e1, e2⟩ := h.wr
  exact ⟨own_same h.same h.f0, h.f0, h.f1, h.f2, h.f3, h.f4, h.f5, h.n1, h.n2, h.n3, h.n4, ⟨dx, upd_same⟩, by rw [upd_ne (ne_of h.sl e (by intro z; cases z))]; exact h.sl, by rw [upd_ne (ne_of h.no e (by intro z; cases z))]; exact h.no,
    by rw [upd_ne (ne_of h.pe e (by intro z; cases z))]; exact h.pe, by rw [upd_ne (ne_of h.sa e (by intro z; cases z))]; exact h.sa, ⟨xs, by rw [upd_ne (ne_of e1 e (by intro z; cases z))]; exact e1, TnAll.keep (TK.upd (by rw [e]; trivial)) e2⟩⟩
end
section
variable (A : RA) (g g' : Str)
theorem fl_default : (A.flds g).lookup ("default" : Str) = some (.str A.d) := by kernel_rfl
theorem fl_known : (A.flds g).lookup ("known" : Str) = some (.ref A.kd) := by kernel_rfl
theorem fl_slots : (A.flds g).lookup ("slots" : Str) = some (.ref A.ps) := by kernel_rfl
theorem fl_noted : (A.flds g).lookup ("noted" : Str) = some (.ref A.pn) := by kernel_rfl
theorem fl_peeked : (A.flds g).lookup ("peeked" : Str) = some (.ref A.pp) := by kernel_rfl
theorem fl_said : (A.flds g).lookup ("said" : Str) = some (.ref A.pd) := by kernel_rfl
theorem fl_written : (A.flds g).lookup ("written" : Str) = some (.ref A.pw) := by kernel_rfl
theorem fl_given : (A.flds g).lookup ("given" : Str) = some (.str g) := by kernel_rfl
theorem fl_none : (A.flds g).lookup ("word_in" : Str) = none := by kernel_rfl
theorem fl_none2 (v : V) : (A.fldsV v).lookup ("parts" : Str) = none := by kernel_rfl
theorem fv_noted (v : V) : (A.fldsV v).lookup ("noted" : Str) = some (.ref A.pn) := by kernel_rfl
theorem fv_peeked (v : V) : (A.fldsV v).lookup ("peeked" : Str) = some (.ref A.pp) := by kernel_rfl
theorem fv_said (v : V) : (A.fldsV v).lookup ("said" : Str) = some (.ref A.pd) := by kernel_rfl
theorem fv_written (v : V) : (A.fldsV v).lookup ("written" : Str) = some (.ref A.pw) := by kernel_rfl
theorem fv_given (v : V) : (A.fldsV v).lookup ("given" : Str) = some v := by kernel_rfl
theorem fl_giveV (v : V) : putF "given" v (A.flds g) = A.fldsV v := by kernel_rfl
theorem fl_give : putF "given" (.str g') (A.flds g) = A.flds g' := by kernel_rfl
end
end Td
/-! dict(zip(t, u)) of two tuples as long as each other. -/
namespace Td
open PySem
section
variable {prog : Program} {w : World} {A : Around} {E : Value → Shared → Prop} {s : Shared} {z TI TO T i1 i2 : Addr} {f : Bool} {oT : Obj} {fp1 fp2 : List Addr} {n1 n2 i : Nat} {P1 P2 : Nat → Value → Prop} {St1 St2 : Nat → Heap → Prop}
/-- the next pair, the one ahead still held -/
theorem held_item {Q : Value → Shared → Prop} (S : ZipSep2 z TI TO i1 i2 fp1 fp2) (D1 : Draws prog w A i1 fp1 n1 P1 St1) (D2 : Draws prog w A i2 fp2 n2 P2 St2)
    (hz : IsZipHeld s.heap z TI TO T f) (hT : s.heap.get? T = some oT) (hTI : IsTupOf2 s.heap TI (.ref i1) (.ref i2)) (u1 : St1 i s.heap) (u2 : St2 i s.heap) (l1 : i < n1) (l2 : i < n2)
    (hQ : ∀ x y h' tk, P1 i x → P2 i y → IsZipHeld h' z TI TO T true → St1 (i + 1) h' → St2 (i + 1) h' → IsTupOf2 h' s.heap.objs.size x y →
      (∀ c o, c ≠ z → c ≠ i1 → c ≠ i2 → s.heap.get? c = some o → h'.get? c = some o) → Q (.ref s.heap.objs.size) { s with heap := h', toks := tk }) :
    wpAny (model prog w) A (Builtin.«zip.__next__» ⟨[.ref z], []⟩) (fun fin s' => ∃ v, fin = .done (.ret v) ∧ Q v s') E s := by
  obtain ⟨h0, gl, dd, t0, ow⟩ := s
  show wpAny _ _ (field (.ref z) 2 >>= _) _ _ _
  refine wpAny_bind (wpAny_field hz rfl (x := .bool false) rfl ?_)
  show wpAny _ _ (field (.ref z) 3 >>= _) _ _ _
  refine wpAny_bind (wpAny_field hz rfl (x := .ref TI) rfl (wpAny_bind (wpAny_seqItems hTI rfl ?_)))
  show wpAny _ _ (Builtin.SmallTypes.ownedTupleIsFree (.ref z) >>= _) _ _ _
  refine wpAny_bind (wpAny_tupleHeld_zip hz hT fun h1 z1 k1 => ?_)
  replace k1 : Heap.SameBut z h0 h1 := k1
  simp only [Bool.false_eq_true, if_false]
  refine wpAny_bind ?_
  rw [← Array.forIn_toList]
  simp only [List.forIn_cons, List.forIn_nil]
  refine wpAny_bind (wpAny_bind (wpAny_holding ?_))
  show wpAny _ _ (Builtin.SmallTypes.nextOf (.ref i1) >>= _) _ _ ⟨h1, gl, dd, t0, ow⟩
  refine wpAny_bind (D1.item i _ _ _ l1 (D1.over u1 k1 S.zf1) fun x h2 t2 px v1 k2 => wpAny_pure (wpAny_pure ?_))
  replace k2 : Heap.SameBut i1 h1 h2 := k2
  refine wpAny_bind (wpAny_bind (wpAny_holding ?_))
  show wpAny _ _ (Builtin.SmallTypes.nextOf (.ref i2) >>= _) _ _ ⟨h2, gl, dd, t2, ow⟩
  refine wpAny_bind (D2.item i _ _ _ l2 (D2.over (D2.over u2 k1 S.zf2) k2 S.sep1_2) fun y h3 t3 py v2 k3 => wpAny_pure (wpAny_pure (wpAny_pure ?_)))
  replace k3 : Heap.SameBut i2 h2 h3 := k3
  show wpAny _ _ (newTuple [x, y] >>= _) _ _ _
  refine wpAny_bind (wpAny_newTuple ?_)
  have up : ∀ c o, c ≠ z → c ≠ i1 → c ≠ i2 → h0.get? c = some o → h3.get? c = some o := fun c o a b d e => k3.extBut _ _ d (k2.extBut _ _ b (k1.extBut _ _ a e))
  have es : h3.objs.size = h0.objs.size := by rw [k3.1, k2.1, k1.1]
  have nw : IsTupOf2 (h3.push { cls := .type "tuple", data := .seq #[x, y] }) h3.objs.size x y := Heap.get?_push_size _ rfl
  refine wpAny_pure ⟨_, rfl, ?_⟩
  rw [es] at nw
  show Q (.ref h3.objs.size) _
  rw [es]
  exact hQ x y _ t3 px py (Heap.get?_push_of_some _ (k3.extBut _ _ S.zi2 (k2.extBut _ _ S.zi1 z1)))
    (D1.frame _ _ _ (D1.over v1 k3 S.sep2_1) fun b _ o e => Heap.get?_push_of_some _ e) (D2.frame _ _ _ v2 fun b _ o e => Heap.get?_push_of_some _ e) nw fun c o a b d e => Heap.get?_push_of_some _ (up c o a b d e)
/-- no pair behind the last, the one ahead still held -/
theorem held_end {Q : Fin → Shared → Prop} (S : ZipSep2 z TI TO i1 i2 fp1 fp2) (D1 : Draws prog w A i1 fp1 n1 P1 St1)
    (hz : IsZipHeld s.heap z TI TO T f) (hT : s.heap.get? T = some oT) (hTI : IsTupOf2 s.heap TI (.ref i1) (.ref i2)) (u1 : St1 n1 s.heap)
    (hE : ∀ h' e, (∀ c o, c ≠ z → c ≠ i1 → s.heap.get? c = some o → h'.get? c = some o) → (∃ o, h'.get? e = some o ∧ o.cls = .type "StopIteration") → E (.ref e) { s with heap := h' }) :
    wpAny (model prog w) A (Builtin.«zip.__next__» ⟨[.ref z], []⟩) Q E s := by
  show wpAny _ _ (field (.ref z) 2 >>= _) _ _ _
  refine wpAny_bind (wpAny_field hz rfl (x := .bool false) rfl ?_)
  show wpAny _ _ (field (.ref z) 3 >>= _) _ _ _
  refine wpAny_bind (wpAny_field hz rfl (x := .ref TI) rfl (wpAny_bind (wpAny_seqItems hTI rfl ?_)))
  show wpAny _ _ (Builtin.SmallTypes.ownedTupleIsFree (.ref z) >>= _) _ _ _
  refine wpAny_bind (wpAny_tupleHeld_zip hz hT fun h1 z1 k1 => ?_)
  simp only [Bool.false_eq_true, if_false]
  refine wpAny_bind ?_
  rw [← Array.forIn_toList]
  simp only [List.forIn_cons, List.forIn_nil]
  refine wpAny_bind (wpAny_bind (wpAny_holding ?_))
  show wpAny _ _ (Builtin.SmallTypes.nextOf (.ref i1) >>= _) _ _ _
  exact wpAny_bind (D1.done { s with heap := h1 } _ _ (D1.over u1 k1 S.zf1) fun h2 e k2 he => hE h2 e (fun c o a b x => k2 _ _ b (k1.extBut _ _ a x)) he)
theorem next_held_item {Q : Option Value → Shared → Prop} (S : ZipSep2 z TI TO i1 i2 fp1 fp2) (D1 : Draws prog w A.in1 i1 fp1 n1 P1 St1) (D2 : Draws prog w A.in1 i2 fp2 n2 P2 St2)
    (hz : IsZipHeld s.heap z TI TO T f) (hT : s.heap.get? T = some oT) (hTI : IsTupOf2 s.heap TI (.ref i1) (.ref i2)) (u1 : St1 i s.heap) (u2 : St2 i s.heap) (l1 : i < n1) (l2 : i < n2)
    (hQ : ∀ x y h' tk, P1 i x → P2 i y → IsZipHeld h' z TI TO T true → St1 (i + 1) h' → St2 (i + 1) h' → IsTupOf2 h' s.heap.objs.size x y →
      (∀ c o, c ≠ z → c ≠ i1 → c ≠ i2 → s.heap.get? c = some o → h'.get? c = some o) → Q (some (.ref s.heap.objs.size)) { s with heap := h', toks := tk }) :
    wpAny (model prog w) A (pyNext (.ref z)) Q E s := by
  have ty : s.TypeIs (.ref z) "zip" := ⟨_, hz, rfl⟩
  unfold pyNext
  refine wpAny_bind (wpAny_attempt (wpAny_callSpecial?_slot (name := Str.ofString "__next__") ty F.slot_zip_next (wpAny_call_entry F.slot_zip_next ty F.entry_zip_next ?_ (F.args_zip_next_1 _))))
  exact held_item S D1 D2 hz hT hTI u1 u2 l1 l2 fun x y h' tk a b c d e g k => wpAny_pure (hQ x y h' tk a b c d e g k)
theorem next_held_end {Q : Option Value → Shared → Prop} (S : ZipSep2 z TI TO i1 i2 fp1 fp2) (D1 : Draws prog w A.in1 i1 fp1 n1 P1 St1)
    (hz : IsZipHeld s.heap z TI TO T f) (hT : s.heap.get? T = some oT) (hTI : IsTupOf2 s.heap TI (.ref i1) (.ref i2)) (u1 : St1 n1 s.heap)
    (hQ : ∀ h', (∀ c o, c ≠ z → c ≠ i1 → s.heap.get? c = some o → h'.get? c = some o) → Q none { s with heap := h' }) :
    wpAny (model prog w) A (pyNext (.ref z)) Q E s := by
  have ty : s.TypeIs (.ref z) "zip" := ⟨_, hz, rfl⟩
  unfold pyNext
  refine wpAny_bind (wpAny_attempt (wpAny_callSpecial?_slot (name := Str.ofString "__next__") ty F.slot_zip_next (wpAny_call_entry F.slot_zip_next ty F.entry_zip_next ?_ (F.args_zip_next_1 _))))
  refine held_end S D1 hz hT hTI u1 fun h' e k he => ?_
  obtain ⟨o, ho, hc⟩ := he
  exact wpAny_bind (wpAny_isInstance (T := "StopIteration") (b := true) ⟨o, ho, hc⟩ isSubtype_stop (wpAny_pure (hQ _ k)))
end
theorem apart {h : Heap} {it l a : Addr} {i : Nat} {xs : Array Value} (p : h.IsTupleIter it l i) (q : h.IsTuple a xs) : a ≠ it := by
  intro e
  subst e
  obtain ⟨o, e1, c1, _⟩ := p
  obtain ⟨u, e2, c2, _⟩ := q
  rw [e1] at e2
  cases e2
  rw [c1] at c2
  injection c2 with c2
  exact absurd c2 (by decide)
/-- zip(t, u) as the argument of dict() -/
theorem zipTup {prog : Program} {w : World} (z TI TO i1 i2 a b : Addr) (S : ZipSep2 z TI TO i1 i2 [i1, a] [i2, b]) (xs ys : Array Value) (hl : xs.size = ys.size) :
    PairArg prog w "zip" z [z, TI, TO, i1, a, i2, b] [z, TO, i1, i2] xs.size (fun i k v => xs[i]? = some k ∧ ys[i]? = some v)
      (fun h => IsZip h z TI TO .none ∧ IsTupOf2 h TI (.ref i1) (.ref i2) ∧ IsTupOf2 h TO .none .none ∧ (h.IsTupleIter i1 a 0 ∧ h.IsTuple a xs) ∧ h.IsTupleIter i2 b 0 ∧ h.IsTuple b ys) where
  type := fun s o => ⟨_, o.1, rfl⟩
  notDict := by decide
  keep := fun h h' ⟨q1, q2, q3, ⟨q4, q5⟩, q6, q7⟩ k => ⟨k _ _ q1, k _ _ q2, k _ _ q3, ⟨q4.at fun o => k _ o, q5.at fun o => k _ o⟩, q6.at fun o => k _ o, q7.at fun o => k _ o⟩
  there := fun h ⟨q1, q2, q3, ⟨⟨o4, q4, _⟩, o5, q5, _⟩, ⟨o6, q6, _⟩, o7, q7, _⟩ c hc => by
    simp only [List.mem_cons, List.not_mem_nil, or_false] at hc
    rcases hc with e | e | e | e | e | e | e <;> subst e
    · exact ⟨_, q1⟩
    · exact ⟨_, q2⟩
    · exact ⟨_, q3⟩
    · exact ⟨_, q4⟩
    · exact ⟨_, q5⟩
    · exact ⟨_, q6⟩
    · exact ⟨_, q7⟩
  sub := fun c hc => by
    simp only [List.mem_cons, List.not_mem_nil, or_false] at hc ⊢
    rcases hc with e | e | e | e <;> simp [e]
  noKeys := fun A s Q E hA o h => getAttrOr_miss_zip o.1 rfl rfl rfl zip_no_keys (by decide +kernel) hA h
  iter := fun A s d Q E hA ⟨q1, q2, q3, q4, q6⟩ hd hf h => by
    simp only [List.mem_cons, List.not_mem_nil, or_false, not_or] at hf
    obtain ⟨dz, dI, dO, d1, da, d2, db⟩ := hf
    have D1 := Draws.tuple (prog := prog) (w := w) (A := A.in1) hA i1 a (apart q4.1 q4.2) xs
    have D2 := Draws.tuple (prog := prog) (w := w) (A := A.in1) hA i2 b (apart q6.1 q6.2) ys
    refine wpAny_pyIter_zip q1 (h z [z, TO, i1, i2] (fun i g => IsTupOf2 g TI (.ref i1) (.ref i2) ∧ (g.IsTupleIter i1 a i ∧ g.IsTuple a xs) ∧ (g.IsTupleIter i2 b i ∧ g.IsTuple b ys) ∧
      ((IsZip g z TI TO .none ∧ IsTupOf2 g TO .none .none) ∨ ∃ T f oT, IsZipHeld g z TI TO T f ∧ g.get? T = some oT ∧ T ≠ z ∧ T ≠ i1 ∧ T ≠ i2 ∧ T ≠ d)) s.heap s.toks ?_ ⟨q2, q4, q6, .inl ⟨q1, q3⟩⟩ (fun _ _ e => e) fun c hc => .inl hc)
    refine ⟨fun hm => ?_, fun i g g' st k => ?_, fun i s1 Q1 E1 hi st hds hQ => ?_, fun s1 Q1 E1 st hQ => ?_⟩
    · simp only [List.mem_cons, List.not_mem_nil, or_false] at hm
      rcases hm with e | e | e | e
      · exact dz e
      · exact dO e
      · exact d1 e
      · exact d2 e
    · obtain ⟨p1, ⟨p2, p3⟩, ⟨p4, p5⟩, p6⟩ := st
      refine ⟨k _ _ (Ne.symm dI) p1, ⟨p2.at fun o => k _ o (Ne.symm d1), p3.at fun o => k _ o (Ne.symm da)⟩, ⟨p4.at fun o => k _ o (Ne.symm d2), p5.at fun o => k _ o (Ne.symm db)⟩, ?_⟩
      rcases p6 with ⟨r1, r2⟩ | ⟨T, f, oT, r1, r2, r3, r4, r5, r6⟩
      · exact .inl ⟨k _ _ (Ne.symm dz) r1, k _ _ (Ne.symm dO) r2⟩
      · exact .inr ⟨T, f, oT, k _ _ (Ne.symm dz) r1, k _ _ r6 r2, r3, r4, r5, r6⟩
    · obtain ⟨p1, p2, p4, p6⟩ := st
      have old : ∀ {c o}, s1.heap.get? c = some o → s1.heap.objs.size ≠ c := fun e => Nat.ne_of_gt (Heap.lt_size e)
      have m1 : s1.heap.objs.size ≠ i1 := let ⟨⟨_, e, _⟩, _⟩ := p2; old e
      have m2 : s1.heap.objs.size ≠ i2 := let ⟨⟨_, e, _⟩, _⟩ := p4; old e
      rcases p6 with ⟨r1, r2⟩ | ⟨T, f, oT, r1, r2, r3, r4, r5, r6⟩
      · refine wpAny_pyNext_zipD2_item S D1 D2 r1 p1 r2 p2 p4 hi (hl ▸ hi) fun x y h' tk px py b1 _ c1 c2 b5 _ k => ?_
        exact hQ _ x y h' tk ⟨px, py⟩ (.inl ⟨_, b5, rfl, _, rfl⟩) ⟨k _ _ S.TIz S.TITO S.TIi1 S.TIi2 p1, c1, c2, .inr ⟨_, false, _, b1, b5, old r1, m1, m2, Nat.ne_of_gt hds⟩⟩
          fun c o hc e => k c o (fun v => hc (by simp [v])) (fun v => hc (by simp [v])) (fun v => hc (by simp [v])) (fun v => hc (by simp [v])) e
      · refine next_held_item S D1 D2 r1 r2 p1 p2 p4 hi (hl ▸ hi) fun x y h' tk px py b1 c1 c2 b5 k => ?_
        exact hQ _ x y h' tk ⟨px, py⟩ (.inl ⟨_, b5, rfl, _, rfl⟩) ⟨k _ _ S.TIz S.TIi1 S.TIi2 p1, c1, c2, .inr ⟨T, true, oT, b1, k _ _ r3 r4 r5 r2, r3, r4, r5, r6⟩⟩
          fun c o hc e => k c o (fun v => hc (by simp [v])) (fun v => hc (by simp [v])) (fun v => hc (by simp [v])) e
    · obtain ⟨p1, p2, p4, p6⟩ := st
      rcases p6 with ⟨r1, r2⟩ | ⟨T, f, oT, r1, r2, r3, r4, r5, r6⟩
      · exact wpAny_pyNext_zipD2_end S D1 D2 r1 p1 r2 p2 p4 (Nat.le_refl _) (by omega) (.inl rfl) fun h' tk k => hQ h' tk fun c o hc e => k c o (fun v => hc (by simp [v])) (fun v => hc (by simp [v])) (fun v => hc (by simp [v])) (fun v => hc (by simp [v])) e
      · exact next_held_end S D1 r1 r2 p1 p2 fun h' k => hQ h' s1.toks fun c o hc e => k c o (fun v => hc (by simp [v])) (fun v => hc (by simp [v])) e
open PySem.Spec PyProof.Rows L2
/-- dict(zip(..)) of tuples with keys for items -/
def tDictZip (K : PySem.W.Frag) (t : TA) : TE := fun σ H Q => t σ H fun vs H1 => ∃ (a b : Addr) (ks : List Key) (ys : List V), vs = [.ref a, .ref b] ∧ SqT K H1 a (ks.map kV) ∧ SqT K H1 b ys ∧ ks.length = ys.length ∧
  ∀ p, H1 p = none → Q (.ref p) (upd H1 p (.dK (mergeK [] (ks.zip ys))))
theorem zip_rel : ∀ {ks : List Key} {ys : List V} {us vs : List Value}, Vals (ks.map kV) us → Vals ys vs → ks.length = ys.length →
    KV (ks.zip ys) (ks.zip vs) ∧ us.length = ks.length ∧ ∀ (i : Nat) (k v : Value), us[i]? = some k → vs[i]? = some v → ∃ c, (ks.zip vs)[i]? = some (c, v) ∧ ∀ (P : Program) (w : World), (mixKind P w).is c k = true
  | [], [], _, _, .nil, .nil, _ => ⟨.nil, rfl, fun i k v h => by simp at h⟩
  | c :: ks, y :: ys, _, _, .cons r1 t1, .cons r2 t2, h => by
    obtain ⟨p1, p2, p3⟩ := zip_rel t1 t2 (by simpa using h)
    refine ⟨.cons ⟨rfl, r2⟩ p1, by rw [List.length_cons, List.length_cons, p2], fun i k v h1 h2 => ?_⟩
    cases i with
    | zero =>
      simp at h1 h2
      subst h1 h2
      exact ⟨c, rfl, fun P w => kV_is r1⟩
    | succ i => exact p3 i k v (by simpa using h1) (by simpa using h2)
theorem sepNat (n a b : Nat) (ha : a < n) (hb : b < n) : ZipSep2 (n + 4) (n + 2) (n + 3) n (n + 1) [n, a] [n + 1, b] := by
  have k1 : ∀ i : Nat, 0 < i → n + i ≠ n := fun i h => by omega
  have k2 : ∀ i j : Nat, i ≠ j → n + i ≠ n + j := fun i j h => by omega
  have k3 : ∀ i : Nat, n + i ≠ a := fun i => by omega
  have k4 : ∀ i : Nat, n + i ≠ b := fun i => by omega
  have k5 : n ≠ b := by omega
  have k6 : n ≠ a := by omega
  refine ⟨k2 2 4 (by decide), k2 3 4 (by decide), k2 2 3 (by decide), k1 2 (by decide), List.mem_cons_self, fun h => ?_, fun h => ?_, k2 2 1 (by decide), List.mem_cons_self, fun h => ?_, fun h => ?_, fun h => ?_, fun h => ?_⟩ <;>
    rcases List.mem_cons.mp h with h | h
  · exact k1 4 (by decide) h
  · exact k3 4 (List.mem_singleton.mp h)
  · exact k1 3 (by decide) h
  · exact k3 3 (List.mem_singleton.mp h)
  · exact k2 4 1 (by decide) h
  · exact k4 4 (List.mem_singleton.mp h)
  · exact k2 3 1 (by decide) h
  · exact k4 3 (List.mem_singleton.mp h)
  · exact k1 1 (by decide) h.symm
  · exact k5 (List.mem_singleton.mp h)
  · exact k1 1 (by decide) h
  · exact k3 1 (List.mem_singleton.mp h)
theorem notNew (n c : Nat) (h : c < n) : c ∉ [n + 4, n + 3, n, n + 1] := by
  intro m
  simp only [List.mem_cons, List.not_mem_nil, or_false] at m
  omega
theorem merge_len (ks : List Key) (ys : List V) : (mergeK [] (ks.zip ys)).length ≤ ks.length := by
  refine Nat.le_trans (length_mergeK (ks.zip ys) []) ?_
  rw [List.length_nil, Nat.zero_add, List.length_zip]
  exact Nat.min_le_left ..
theorem pe_dictZip {X : Cx} {e e2 : Expr} {t : TA} {p p2 pos pos2 : Pos} (hc : X.calm = true) (gd : Gl X "dict") (md : X.mg "dict" = none) (gz : Gl X "zip") (mz : X.mg "zip" = none) (ha : PA X [e, e2] t)
    (hs : starEach [e, e2] X.env = (false, eval e X.env) :: starEach [e2] X.env := by rfl) (hpl : (backTo pos2 (starEach [e2] X.env)).any (·.1) = false := by rfl)
    (ho : starEach [.Call (.Name "zip" p2) [e, e2] [] pos2] X.env = (false, eval (.Call (.Name "zip" p2) [e, e2] [] pos2) X.env) :: starEach [] X.env := by rfl) :
    PE X (.Call (.Name "dict" p) [.Call (.Name "zip" p2) [e, e2] [] pos2] [] pos) (tDictZip X.K t) := by
  refine ⟨fun pins s σ H Q I h => ?_⟩
  refine wpAny_Call_Name_kw (ld_blt I gd md PyProof.Rows.boot_dict ?_)
  refine PyProof.Rows.callWith_type1 ?_ ho rfl
  rw [ho]
  show wpAny _ _ (spliced ((false, eval (.Call (.Name "zip" p2) [e, e2] [] pos2) X.env) :: backTo pos (starEach [] X.env))) _ _ s
  refine Calls.spliced_cons ?_
  refine wpAny_Call_Name_kw (ld_blt I gz mz PyProof.Rows.boot_zip (PyProof.Rows.callWith_type1 (thn (ha.run pos2 pins s σ H _ I h) fun us s1 ⟨vs, H1, I1, r1, a, b, ks, ys, ev, hA, hB, hl, q⟩ => ?_) hs hpl))
  subst ev
  obtain ⟨u1, u2, eu, ra, rb⟩ := vals2 r1
  subst eu
  cases ra
  cases rb
  obtain ⟨xs', va, ta, za⟩ := I1.tuple hA
  obtain ⟨ys', vb, tb, zb⟩ := I1.tuple hB
  obtain ⟨o1, ho1, _⟩ := id ta
  obtain ⟨o2, ho2, _⟩ := id tb
  obtain ⟨hrel, hlen, hks⟩ := zip_rel va vb hl
  have ka : s1.heap.IsTuple a xs'.toArray := ta
  have kb : s1.heap.IsTuple b ys'.toArray := tb
  have lb := vb.length
  have big : sysModules < s1.heap.objs.size := I1.big
  have xl : xs'.length ≤ sizeLine := by rw [hlen, ← List.length_map (f := kV) (as := ks)]; exact za
  have la : xs'.toArray.size = ys'.toArray.size := by simp; omega
  have g1 := Heap.lt_size ho1
  have g2 := Heap.lt_size ho2
  refine RZ.call_zipT (show s1.heap.IsTuple a xs'.toArray from ta) (show s1.heap.IsTuple b ys'.toArray from tb) fun h1 hz hTI hTO n1 n2 hsz hk => ?_
  refine Calls.spliced_nil ?_
  have S : ZipSep2 (s1.heap.objs.size + 4) (s1.heap.objs.size + 2) (s1.heap.objs.size + 3) s1.heap.objs.size (s1.heap.objs.size + 1) [s1.heap.objs.size, a] [s1.heap.objs.size + 1, b]  := sepNat _ _ _ g1 g2
  refine PySem.call_dict_pairs (knd := mixKind X.prog X.w) (kvs := ks.zip ys') (s := { s1 with heap := h1 }) (zipTup _ _ _ _ _ a b S xs'.toArray ys'.toArray la) (I1.ok.hd hc)
    ⟨hz, hTI, hTO, ⟨n1, ka.at fun o e => hk _ _ e⟩, n2, kb.at fun o e => hk _ _ e⟩ ⟨?_, fun i k v ⟨e1, e2⟩ => ?_⟩ ?_ fun h2 tk hd k2 => ?_
  · rw [List.length_zip, ← lb]; simp; omega
  · obtain ⟨c, c1, c2⟩ := hks i k v (by simpa using e1) (by simpa using e2)
    exact ⟨c, c1, c2 _ _⟩
  · simpa using xl
  · have hm : (h1.objs.size == sysModules) = false := beq_eq_false_iff_ne.mpr (Nat.ne_of_gt (by rw [hsz]; exact Nat.lt_of_lt_of_le big (Nat.le_add_right _ _)))
    have hz2 : (mergeK [] (ks.zip ys)).length ≤ sizeLine := Nat.le_trans (merge_len ks ys) (by rw [← hlen]; exact xl)
    have hk2 : ∀ c o, s1.heap.get? c = some o → h2.get? c = some o := fun c o e => by
      have lt : (c : Nat) < s1.heap.objs.size := Heap.lt_size e
      exact k2 c o (notNew _ _ lt) (hk c o e)
    exact ⟨.ref h1.objs.size, upd H1 h1.objs.size (.dK (mergeK [] (ks.zip ys))), I1.laid (t' := tk) hk2 (by rw [hsz]; omega) (show ObjOk X.prog X.w _ _ _ (.dK (mergeK [] (ks.zip ys))) from ⟨hz2, hm, merged [] (ks.zip ys'), KV.merge hrel .nil, hd⟩), rfl, q _ (I1.hok.fresh (by rw [hsz]; omega))⟩
end Td
/-! t[::-1], t a tuple. -/
namespace Td
open PySem PySem.Spec PyProof.Rows L2 HT
section
variable {prog : Program} {w : World} {A : Around} {E : Value → Shared → Prop} {s : Shared}
theorem sliceApplied_rev {sl : Addr} {vs : Value} {n : Nat} {Q : Int × Int × Nat → Shared → Prop} (hs : s.heap.IsSliceOf sl .none .none vs) (ps : IsPart vs (some (-1)))
    (h : Q (((n : Nat) : Int) - 1, -1, n) s) : wpAny (model prog w) A (Builtin.Slice.sliceApplied (.ref sl) (pure (n : Int))) Q E s := by
  obtain ⟨os, hos, hcs, hds⟩ := id hs
  unfold Builtin.Slice.sliceApplied Builtin.Slice.sliceFields
  refine wpAny_bind (wpAny_bind (wpAny_field hos hds (x := .none) rfl (wpAny_bind (wpAny_field hos hds (x := .none) rfl (wpAny_bind (wpAny_field hos hds (x := vs) rfl (wpAny_pure ?_)))))))
  refine wpAny_bind (slicePart_ ps ?_)
  show wpAny _ _ (if ((-1 : Int) == 0) = true then _ else _) _ _ s
  rw [if_neg (by decide)]
  refine wpAny_bind (slicePart_none (wpAny_bind (slicePart_none (wpAny_bind (wpAny_pure ?_)))))
  show wpAny _ _ (match Builtin.Slice.sliceAdjust none none (-1) (n : Int) with | (lo, hi) => pure (lo, (-1 : Int), Builtin.Slice.slicePlaces lo hi (-1))) _ _ s
  have e : Builtin.Slice.sliceAdjust none none (-1) (n : Int) = ((n : Int) - 1, -1) := by
    unfold Builtin.Slice.sliceAdjust
    simp
  rw [e]
  have e2 : Builtin.Slice.slicePlaces ((n : Int) - 1) (-1) (-1) = n := by
    unfold Builtin.Slice.slicePlaces
    have h1 : ¬ ((-1 : Int) > 0) := by omega
    simp only [h1, if_false]
    split <;> simp <;> omega
  show wpAny _ _ (pure ((n : Int) - 1, (-1 : Int), Builtin.Slice.slicePlaces ((n : Int) - 1) (-1) (-1))) _ _ s
  rw [e2]
  exact wpAny_pure h
theorem fm_congr {α β : Type} {f g : α → Option β} : ∀ {l : List α}, (∀ x ∈ l, f x = g x) → l.filterMap f = l.filterMap g
  | [], _ => rfl
  | x :: l, h => by
    rw [List.filterMap_cons, List.filterMap_cons, h x List.mem_cons_self, fm_congr fun y hy => h y (List.mem_cons_of_mem _ hy)]
theorem pick_rev (xs : Array Value) : ((List.range xs.size).filterMap fun (m : Nat) => xs[(((xs.size : Nat) : Int) - 1 + (m : Int) * (-1)).toNat]?).toArray = xs.toList.reverse.toArray := by
  congr 1
  have e : ((List.range xs.size).filterMap fun (m : Nat) => xs[(((xs.size : Nat) : Int) - 1 + (m : Int) * (-1)).toNat]?) = ((List.range xs.size).map fun k => xs.size - 1 - k).filterMap (xs[·]?) := by
    rw [List.filterMap_map]
    refine fm_congr fun k hk => ?_
    have := List.mem_range.mp hk
    show _ = xs[xs.size - 1 - k]?
    congr 1
    omega
  rw [e, PySem.W.krv_range, List.filterMap_reverse, PySem.W.krv_all]
theorem getItem_tuple_rev {t sl : Addr} {items : Array Value} {vs : Value} {Q : Value → Shared → Prop} (ht : IsTup s.heap t items) (hs : s.heap.IsSliceOf sl .none .none vs) (ps : IsPart vs (some (-1)))
    (h : Q (.ref s.heap.objs.size) { s with heap := s.heap.push { cls := .type "tuple", data := .seq items.toList.reverse.toArray } })
    (hsz : items.size ≤ sizeLine) : wpAny (model prog w) A (getItem (.ref t) (.ref sl)) Q E s := by
  have htake : sizeOk (.seq items.toList.reverse.toArray) := by
    show items.toList.reverse.toArray.size ≤ sizeLine
    rw [List.size_toArray, List.length_reverse, Array.length_toList]
    omega
  obtain ⟨os, hos, hcs, hds⟩ := id hs
  have hTs : s.TypeIs (.ref sl) "slice" := ⟨os, hos, hcs⟩
  unfold getItem
  try with_reducible refine wpAny_holding ?_
  first | refine wpAny_bind (wpAny_pure ?_) | skip
  refine wpAny_bind (wpAny_sequenceKey ht.typeIs (by decide) ?_)
  refine wpAny_bind (wpAny_callSpecial?_slot (name := Str.ofString "__getitem__") ht.typeIs PyProof.Rows.slot_tuple_getitem
    (wpAny_call_entry PyProof.Rows.slot_tuple_getitem ht.typeIs entry_tuple_getitem ?_ (args_tuple_getitem _ _)))
  show wpAny _ _ (Builtin.Tuple.tupleItemsOf (.ref t) >>= _) _ _ s
  refine wpAny_bind (tupleItemsOf_ ht ?_)
  refine wpAny_bind (wpAny_typeOf hTs ?_)
  rw [if_pos (by decide)]
  refine wpAny_bind (sliceApplied_rev hs ps ?_)
  have hno : ¬ ((((items.size : Nat) : Int) - 1 == 0 && (-1 : Int) == 1 && items.size == items.size) = true) := by
    intro q
    rw [Bool.and_eq_true, Bool.and_eq_true] at q
    exact absurd q.1.2 (by decide)
  show wpAny _ _ (if ((((items.size : Nat) : Int) - 1 == 0 && (-1 : Int) == 1 && items.size == items.size) = true) then _ else _) _ _ s
  rw [if_neg hno, pick_rev]
  first
    | exact wpAny_bind (m := Builtin.Tuple.tupleExact _) (wpAny_newObj_type (wpAny_pure ⟨_, rfl, wpAny_pure h⟩) htake)
    | exact wpAny_bind (m := Builtin.Tuple.tupleExact _) (wpAny_newObj_type (wpAny_bind (wpAny_pure (wpAny_pure ⟨_, rfl, wpAny_pure h⟩))) htake)
    | exact wpAny_bind (wpAny_bind (m := Builtin.Tuple.tupleExact _) (wpAny_newObj_type (wpAny_pure (wpAny_pure ⟨_, rfl, wpAny_pure h⟩)) htake))
    | exact wpAny_bind (wpAny_bind (m := Builtin.Tuple.tupleExact _) (wpAny_newObj_type (wpAny_pure ⟨_, rfl, wpAny_pure h⟩) htake))
end
section
variable {X : Cx} {e k : Expr} {te tk : TE} {pos p2 : Pos}
theorem vals_reverse {xs : List V} {us : List Value} (h : Vals xs us) : Vals xs.reverse us.reverse := by
  induction h with
  | nil => exact .nil
  | cons r t ih =>
    rw [List.reverse_cons, List.reverse_cons]
    exact ih.append (.cons r .nil)
def tSlRev (K : PySem.W.Frag) (te tk : TE) : TE := fun σ H Q => te σ H fun x H1 => tk σ H1 fun y H2 => y = .int (-1) ∧ ∃ a xs, x = .ref a ∧ SqT K H2 a xs ∧ ∀ p, H2 p = none → Q (.ref p) (upd H2 p (.tup xs.reverse))
theorem pe_sliceRev (he : PE X e te) (hk : PE X k tk) : PE X (.Subscript e (.Slice none none (some k) p2) pos) (tSlRev X.K te tk) := by
  refine ⟨fun pins s σ H Q I h => ?_⟩
  refine Subscript_ (thn (he.run pins s σ H _ I h) fun v s1 ⟨x, H1, I1, r1, q1⟩ => ?_)
  refine wpAny_Slice ?_
  rw [evalPart_none]
  refine wpAny_pure ?_
  refine wpAny_pure ?_
  rw [evalPart_some]
  refine thn (hk.run pins s1 σ H1 _ I1 q1) fun u s2 ⟨y, H2, I2, r2, q2⟩ => ?_
  obtain ⟨rfl, a, xs, rfl, hx, q⟩ := q2
  cases r1
  obtain ⟨t, rfl⟩ := r2
  have I4 : Inv X pins σ H2 { s2 with heap := s2.heap.push { cls := .type "slice", data := .fields #[.none, .none, .int (-1) t] } } := I2.kept (t' := s2.toks) fun b ob q => Heap.get?_push_of_some _ q
  obtain ⟨its, r, ht, hz⟩ := I4.tuple hx
  have hg : wpAny (model X.prog X.w) X.A (getItem (.ref a) (.ref s2.heap.objs.size)) (EP X pins σ Q) X.xe { s2 with heap := s2.heap.push { cls := .type "slice", data := .fields #[.none, .none, .int (-1) t] } } := by
    refine getItem_tuple_rev ht (Heap.IsSliceOf.new ..) (.int (-1) t) ?_ (by rw [List.size_toArray, ← r.length]; exact hz)
    have ez : its.toArray.toList.reverse.toArray = its.reverse.toArray := rfl
    refine ⟨.ref _, _, I4.laid (t' := s2.toks) (o := .tup xs.reverse) (fun b ob q => Heap.get?_push_of_some _ q) (Nat.le_refl _) ?_, rfl, q _ (I4.hok.fresh (Nat.le_refl _))⟩
    exact ⟨by rw [List.length_reverse]; exact hz, _, vals_reverse r, IsTup.new _ _⟩
  show wpAny (model X.prog X.w) X.A (subscriptTail e (.Slice none none (some k) p2) (.ref a) (.ref s2.heap.objs.size)) (EP X pins σ Q) X.xe { s2 with heap := s2.heap.push { cls := .type "slice", data := .fields #[.none, .none, .int (-1) t] } }
  exact tail_any (ops := [.ref a, .ref s2.heap.objs.size]) ht.typeIs PyProof.Rows.slot_tuple_getitem.lookup hg (by with_unfolding_all rfl)
end
end Td
/-! Texts: a list extended by a tuple; t[::2], t[1::2]; tuple(zip(t, u)). -/
namespace Td
open PySem PySem.Spec PyProof.Rows L2 HT
theorem extMeets (D : Addr) (old : Array Value) (c : Nat) (T : Addr) (add : Array Value) (e : Nat) (dd : Option Addr) (sl : Array (Option Value)) (a1 : ¬(!old.isEmpty && Builtin.List.listTooLong (old.size + add.size)) = true) (a2 : old.size ≤ sizeLine) (a3 : old.size + add.size ≤ sizeLine + 1) :
    Meets (Builtin.«list.extend» ⟨[.ref D, .ref T], []⟩) (fun _ R s => s.heap.get? D = some { cls := .type "list", dict := none, data := .seq old c, slots := #[] } ∧ s.heap.get? T = some { cls := .type "tuple", dict := dd, data := .seq add e, slots := sl } ∧
      R (.ok (.ret Value.none)) { s with heap := s.heap.update D (Obj.mapSeq fun x => x ++ add), toks := s.toks }) := by
  refine .of_wp fun prog w A R st k => ?_
  obtain ⟨hp, gs, dr, tk, os⟩ := st
  obtain ⟨oD, oT, fin⟩ := k
  have g0 := PySem.AutoSeq1.idx_int
  have g1 := PySem.AutoSeq1.sub_tuple_tuple
  have g2 := PySem.AutoSeq1.sub_list_list
  have g3 := PySem.AutoSeq1.sub_tuple_list
  have g4 := PySem.AutoSeq1.sub_list_tuple
  have room : (old ++ add).size ≤ sizeLine + 1 := by rw [Array.size_append]; exact a3
  wp_walk using (wpAny_updateSeq oD rfl (hz := a2) (_hz' := room)), PySem.AutoSeq1.wpAny_loadPart' oD, PySem.AutoSeq1.wpAny_loadPart' oT
  exact ⟨_, rfl, fin⟩
section
variable {X : Cx}
/-- l.extend(t), t a tuple -/
def rExtT (K : PySem.W.Frag) : V → List V → Hp → VK → Prop := fun x vs H Q => ∃ (l b : Addr) (xs zs : List V), x = .ref l ∧ vs = [.ref b] ∧ H l = some (.lst xs) ∧ SqT K H b zs ∧ xs.length + zs.length ≤ sizeLine ∧ Q .non (upd H l (.lst (xs ++ zs)))
theorem mt_extT : MtM X "list.extend" (rExtT X.K) := by
  rintro pins s σ H x vs v us Q I rx rv ⟨l, b, xs, zs, rfl, rfl, eL, eB, room, go⟩
  cases rx
  obtain ⟨u, rfl, ru⟩ := rv.one
  cases ru
  obtain ⟨zl, its, n, ra, hl, oL⟩ := I.lstM eL
  obtain ⟨us, rb, tb, zb⟩ := I.tuple eB
  obtain ⟨ob, hob, hcb, nb, hdb⟩ := id tb
  have la := ra.length
  have lb := rb.length
  have few : its.toArray.size + us.toArray.size ≤ sizeLine := by rw [List.size_toArray, List.size_toArray]; omega
  have short : ¬ (!its.toArray.isEmpty && Builtin.List.listTooLong (its.toArray.size + us.toArray.size)) = true := fun z => by
    rw [notLongL few, Bool.and_false] at z
    cases z
  obtain ⟨cl, dd, dt, sl⟩ := ob
  obtain rfl : cl = .type "tuple" := hcb
  obtain rfl : dt = .seq us.toArray nb := hdb
  refine call_meets F.slot_list_extend ⟨_, oL, rfl⟩ F.entry_list_extend (F.args_list_extend_2 _ _) (extMeets l its.toArray n b us.toArray nb dd sl short (by rw [List.size_toArray]; omega) (by omega)) ⟨oL, hob, ?_⟩
  refine ⟨.non, _, I.lset (its' := its ++ us) eL oL (by simp) (ra.append rb) ?_, rfl, go⟩
  rw [List.length_append]
  omega
end
/-! ### t[b::2] -/
/-- every second item from place b on, k of them -/
def stp {α : Type} (b k : Nat) (xs : List α) : List α := (List.range k).filterMap fun m => xs[b + m * 2]?
theorem stp_vals {xs : List V} {us : List Value} (h : Vals xs us) : ∀ (js : List Nat), Vals (js.filterMap fun j => xs[j]?) (js.filterMap fun j => us[j]?)
  | [] => .nil
  | j :: js => by
    have ih := stp_vals h js
    cases e : xs[j]? with
    | none =>
      have e2 : us[j]? = none := by
        rw [List.getElem?_eq_none_iff] at e ⊢
        rw [← h.length]; exact e
      rw [List.filterMap_cons_none e, List.filterMap_cons_none e2]
      exact ih
    | some x =>
      have lt := (List.getElem?_eq_some_iff.mp e).1
      obtain ⟨u, hu, r⟩ := h.get e
      rw [List.filterMap_cons_some e, List.filterMap_cons_some hu]
      exact .cons r ih
theorem stp_map {α : Type} (b k : Nat) (xs : List α) : stp b k xs = ((List.range k).map fun m => b + m * 2).filterMap fun j => xs[j]? := by
  unfold stp
  rw [List.filterMap_map]
  rfl
theorem stp_len {α : Type} (b k : Nat) (xs : List α) : (stp b k xs).length ≤ k := by
  unfold stp
  exact Nat.le_trans (List.length_filterMap_le ..) (Nat.le_of_eq List.length_range)
/-- pairs in a row, and one side of them -/
def flat2 {α β : Type} (f g : α → β) (ps : List α) : List β := ps.flatMap fun p => [f p, g p]
theorem flat2_len {α β : Type} (f g : α → β) : ∀ ps : List α, (flat2 f g ps).length = ps.length * 2
  | [] => rfl
  | p :: ps => by
    show (f p :: g p :: flat2 f g ps).length = _
    rw [List.length_cons, List.length_cons, flat2_len f g ps, List.length_cons]
    omega
theorem flat2_at {α β : Type} (f g : α → β) : ∀ (ps : List α) (m : Nat), (flat2 f g ps)[0 + m * 2]? = (ps[m]?).map f ∧ (flat2 f g ps)[1 + m * 2]? = (ps[m]?).map g
  | [], m => by simp [flat2]
  | p :: ps, 0 => ⟨rfl, rfl⟩
  | p :: ps, m + 1 => by
    obtain ⟨a, b⟩ := flat2_at f g ps m
    show (f p :: g p :: flat2 f g ps)[0 + (m + 1) * 2]? = _ ∧ (f p :: g p :: flat2 f g ps)[1 + (m + 1) * 2]? = _
    refine ⟨?_, ?_⟩
    · rw [show 0 + (m + 1) * 2 = (0 + m * 2) + 1 + 1 by omega, List.getElem?_cons_succ, List.getElem?_cons_succ, a]; rfl
    · rw [show 1 + (m + 1) * 2 = (1 + m * 2) + 1 + 1 by omega, List.getElem?_cons_succ, List.getElem?_cons_succ, b]; rfl
theorem range_pick {α β : Type} (h : α → β) : ∀ (ps : List α) {F : Nat → Option β}, (∀ m, F m = (ps[m]?).map h) → (List.range ps.length).filterMap F = ps.map h := fun ps F e => by
  refine List.ext_getElem? fun i => ?_
  have e2 : (List.range ps.length).filterMap F = (List.range ps.length).filterMap fun m => (ps[m]?).map h := by
    congr 1
    funext m
    exact e m
  rw [e2]
  clear e e2
  induction ps generalizing i with
  | nil => rfl
  | cons p ps ih =>
    rw [List.length_cons, List.range_succ_eq_map, List.filterMap_cons_some (f := fun m => ((p :: ps)[m]?).map h) (b := h p) rfl, List.filterMap_map]
    show (h p :: (List.range ps.length).filterMap fun m => (ps[m]?).map h)[i]? = (h p :: ps.map h)[i]?
    cases i with
    | zero => rfl
    | succ i => rw [List.getElem?_cons_succ, List.getElem?_cons_succ]; exact ih i
theorem stp_flat {α β : Type} (f g : α → β) (ps : List α) : stp 0 ps.length (flat2 f g ps) = ps.map f ∧ stp 1 ps.length (flat2 f g ps) = ps.map g :=
  ⟨range_pick f ps fun m => (flat2_at f g ps m).1, range_pick g ps fun m => (flat2_at f g ps m).2⟩
/-- the places of t[b::2] -/
def plc (b n : Nat) : Nat := if b < n then (n - b - 1) / 2 + 1 else 0
section
variable {prog : Program} {w : World} {A : Around} {E : Value → Shared → Prop} {s : Shared}
theorem stepApplied {sl : Addr} {vl vs : Value} {l : Option Int} {b n : Nat} {Q : Int × Int × Nat → Shared → Prop} (hs : s.heap.IsSliceOf sl vl .none vs) (pl : IsPart vl l) (ps : IsPart vs (some 2)) (hb : (l = none ∧ b = 0) ∨ (l = some ((b : Nat) : Int) ∧ b ≤ n))
    (h : Q (((b : Nat) : Int), 2, plc b n) s) : wpAny (model prog w) A (Builtin.Slice.sliceApplied (.ref sl) (pure (n : Int))) Q E s := by
  obtain ⟨os, hos, hcs, hds⟩ := id hs
  unfold Builtin.Slice.sliceApplied Builtin.Slice.sliceFields
  refine wpAny_bind (wpAny_bind (wpAny_field hos hds (x := vl) rfl (wpAny_bind (wpAny_field hos hds (x := .none) rfl (wpAny_bind (wpAny_field hos hds (x := vs) rfl (wpAny_pure ?_)))))))
  refine wpAny_bind (slicePart_ ps ?_)
  show wpAny _ _ (if ((2 : Int) == 0) = true then _ else _) _ _ s
  rw [if_neg (by decide)]
  refine wpAny_bind (slicePart_ pl (wpAny_bind (slicePart_none (wpAny_bind (wpAny_pure ?_)))))
  have e : Builtin.Slice.sliceAdjust l none 2 (n : Int) = (((b : Nat) : Int), (n : Int)) := by
    unfold Builtin.Slice.sliceAdjust
    rcases hb with ⟨rfl, rfl⟩ | ⟨rfl, hb⟩
    · simp
    · have h1 : ¬ ((2 : Int) < 0) := by omega
      have h2 : ¬ (((b : Nat) : Int) < 0) := by omega
      simp only [h1, h2, if_false]
      rw [Prod.mk.injEq]
      exact ⟨by omega, rfl⟩
  have e2 : Builtin.Slice.slicePlaces ((b : Nat) : Int) (n : Int) 2 = plc b n := by
    unfold Builtin.Slice.slicePlaces plc
    have h1 : (2 : Int) > 0 := by omega
    rw [if_pos h1]
    by_cases h : b < n
    · rw [if_pos h, if_pos (by omega)]
      omega
    · rw [if_neg h, if_neg (by omega)]
      rfl
  show wpAny _ _ (match Builtin.Slice.sliceAdjust l none 2 (n : Int) with | (lo, hi) => pure (lo, (2 : Int), Builtin.Slice.slicePlaces lo hi 2)) _ _ s
  rw [e]
  show wpAny _ _ (pure (((b : Nat) : Int), (2 : Int), Builtin.Slice.slicePlaces ((b : Nat) : Int) (n : Int) 2)) _ _ s
  rw [e2]
  exact wpAny_pure h
theorem getItem_step {t sl : Addr} {items : Array Value} {vl vs : Value} {l : Option Int} {b : Nat} {Q : Value → Shared → Prop} (ht : IsTup s.heap t items) (hs : s.heap.IsSliceOf sl vl .none vs) (pl : IsPart vl l) (ps : IsPart vs (some 2)) (hb : (l = none ∧ b = 0) ∨ (l = some ((b : Nat) : Int) ∧ b ≤ items.size))
    (h : Q (.ref s.heap.objs.size) { s with heap := s.heap.push { cls := .type "tuple", data := .seq (stp b (plc b items.size) items.toList).toArray } })
    (hsz : items.size ≤ sizeLine) : wpAny (model prog w) A (getItem (.ref t) (.ref sl)) Q E s := by
  have few : plc b items.size ≤ items.size := by unfold plc; split <;> omega
  have fit : sizeOk (.seq (stp b (plc b items.size) items.toList).toArray) := by
    show (stp b (plc b items.size) items.toList).toArray.size ≤ sizeLine
    rw [List.size_toArray]
    exact Nat.le_trans (stp_len ..) (by omega)
  obtain ⟨os, hos, hcs, hds⟩ := id hs
  have tS : s.TypeIs (.ref sl) "slice" := ⟨os, hos, hcs⟩
  unfold getItem
  try with_reducible refine wpAny_holding ?_
  first | refine wpAny_bind (wpAny_pure ?_) | skip
  refine wpAny_bind (wpAny_sequenceKey ht.typeIs (by decide) ?_)
  refine wpAny_bind (wpAny_callSpecial?_slot (name := Str.ofString "__getitem__") ht.typeIs PyProof.Rows.slot_tuple_getitem
    (wpAny_call_entry PyProof.Rows.slot_tuple_getitem ht.typeIs entry_tuple_getitem ?_ (args_tuple_getitem _ _)))
  show wpAny _ _ (Builtin.Tuple.tupleItemsOf (.ref t) >>= _) _ _ s
  refine wpAny_bind (tupleItemsOf_ ht ?_)
  refine wpAny_bind (wpAny_typeOf tS ?_)
  rw [if_pos (by decide)]
  refine wpAny_bind (stepApplied hs pl ps hb ?_)
  have hno : ¬ ((((b : Nat) : Int) == 0 && (2 : Int) == 1 && plc b items.size == items.size) = true) := by
    intro q
    rw [Bool.and_eq_true, Bool.and_eq_true] at q
    exact absurd q.1.2 (by decide)
  show wpAny _ _ (if ((((b : Nat) : Int) == 0 && (2 : Int) == 1 && plc b items.size == items.size) = true) then _ else _) _ _ s
  rw [if_neg hno]
  have ep : ((List.range (plc b items.size)).filterMap fun (m : Nat) => items[(((b : Nat) : Int) + (m : Int) * 2).toNat]?).toArray = (stp b (plc b items.size) items.toList).toArray := by
    unfold stp
    congr 2
    funext m
    rw [Array.getElem?_toList, show (((b : Nat) : Int) + (m : Int) * 2).toNat = b + m * 2 by omega]
  rw [ep]
  first
    | exact wpAny_bind (m := Builtin.Tuple.tupleExact _) (wpAny_newObj_type (wpAny_pure ⟨_, rfl, wpAny_pure h⟩) fit)
    | exact wpAny_bind (m := Builtin.Tuple.tupleExact _) (wpAny_newObj_type (wpAny_bind (wpAny_pure (wpAny_pure ⟨_, rfl, wpAny_pure h⟩))) fit)
    | exact wpAny_bind (wpAny_bind (m := Builtin.Tuple.tupleExact _) (wpAny_newObj_type (wpAny_pure (wpAny_pure ⟨_, rfl, wpAny_pure h⟩)) fit))
    | exact wpAny_bind (wpAny_bind (m := Builtin.Tuple.tupleExact _) (wpAny_newObj_type (wpAny_pure ⟨_, rfl, wpAny_pure h⟩) fit))
end
section
variable {X : Cx} {e k : Expr} {lo : Option Expr} {te tk : TE} {tl : TO} {pos p2 : Pos}
/-- t[::2] or t[1::2] of a tuple of pairs in a row -/
def tStep (K : PySem.W.Frag) (te : TE) (tl : TO) (tk : TE) : TE := fun σ H Q => te σ H fun x H1 => tl σ H1 fun l H2 => tk σ H2 fun y H3 => y = .int 2 ∧ ∃ (a : Addr) (xs : List V) (b : Nat), x = .ref a ∧ SqT K H3 a xs ∧ ((l = none ∧ b = 0) ∨ (l = some ((b : Nat) : Int) ∧ b ≤ xs.length)) ∧
  ∀ p, H3 p = none → Q (.ref p) (upd H3 p (.tup (stp b (plc b xs.length) xs)))
theorem pe_step (he : PE X e te) (hl : PO X lo tl) (hk : PE X k tk) : PE X (.Subscript e (.Slice lo none (some k) p2) pos) (tStep X.K te tl tk) := by
  refine ⟨fun pins s σ H Q I h => ?_⟩
  refine Subscript_ (thn (he.run pins s σ H _ I h) fun v s1 ⟨x, H1, I1, r1, q1⟩ => ?_)
  refine wpAny_Slice (thn (hl.run pins s1 σ H1 _ I1 q1) fun vl s2 ⟨l, H2, I2, pl, q2⟩ => ?_)
  rw [evalPart_none]
  refine wpAny_pure ?_
  rw [evalPart_some]
  refine thn (hk.run pins s2 σ H2 _ I2 q2) fun u s3 ⟨y, H3, I3, r3, q3⟩ => ?_
  obtain ⟨rfl, a, xs, b, rfl, hx, hb, q⟩ := q3
  cases r1
  obtain ⟨t, rfl⟩ := r3
  have I4 : Inv X pins σ H3 { s3 with heap := s3.heap.push { cls := .type "slice", data := .fields #[vl, .none, .int 2 t] } } := I3.kept (t' := s3.toks) fun b ob q => Heap.get?_push_of_some _ q
  obtain ⟨its, r, ht, hz⟩ := I4.tuple hx
  have el := r.length
  have hg : wpAny (model X.prog X.w) X.A (getItem (.ref a) (.ref s3.heap.objs.size)) (EP X pins σ Q) X.xe { s3 with heap := s3.heap.push { cls := .type "slice", data := .fields #[vl, .none, .int 2 t] } } := by
    refine getItem_step (l := l) (b := b) ht (Heap.IsSliceOf.new ..) pl (.int 2 t) (hb.elim .inl fun z => .inr ⟨z.1, by rw [List.size_toArray, ← el]; exact z.2⟩) ?_ (by rw [List.size_toArray, ← el]; exact hz)
    have en : plc b its.toArray.size = plc b xs.length := by rw [List.size_toArray, ← el]
    rw [en]
    have hv : Vals (stp b (plc b xs.length) xs) (stp b (plc b xs.length) its) := by rw [stp_map, stp_map]; exact stp_vals r _
    refine ⟨.ref _, _, I4.laid (t' := s3.toks) (o := .tup (stp b (plc b xs.length) xs)) (fun b ob q => Heap.get?_push_of_some _ q) (Nat.le_refl _) ?_, rfl, q _ (I4.hok.fresh (Nat.le_refl _))⟩
    refine ⟨Nat.le_trans (stp_len ..) ?_, _, hv, IsTup.new _ _⟩
    unfold plc
    split <;> omega
  show wpAny (model X.prog X.w) X.A (subscriptTail e (.Slice lo none (some k) p2) (.ref a) (.ref s3.heap.objs.size)) (EP X pins σ Q) X.xe { s3 with heap := s3.heap.push { cls := .type "slice", data := .fields #[vl, .none, .int 2 t] } }
  exact tail_any (ops := [.ref a, .ref s3.heap.objs.size]) ht.typeIs PyProof.Rows.slot_tuple_getitem.lookup hg (by with_unfolding_all rfl)
end
end Td
/-! tuple(d.items()). -/
namespace Td
open PySem PySem.Spec PyProof.Rows L2
section
variable {prog : Program} {w : World} {K : Type} [DecidableEq K] {knd : KeyKind prog w K} {A : Around} {E : Value → Shared → Prop} {s : Shared} {r d : Addr} {kvs : List (K × Value)} {ep : Nat}
/-- what a heap holds behind the items are taken -/
def Taken (knd : KeyKind prog w K) (kvs : List (K × Value)) (h h' : Heap) (as : List Addr) : Prop :=
  (∀ b o, h.get? b = some o → h'.get? b = some o) ∧ as.length = kvs.length ∧ PySem.W.KdxG knd kvs h.objs.size h' as ∧
  ∃ acc c, acc.toList = as.map Value.ref ∧ h'.get? h.objs.size = some { cls := .type "list", dict := none, data := .seq acc c, slots := #[] }
theorem collect_view {Q : List Value → Shared → Prop} (hh : A.handled = none) (hv : s.heap.IsItemsView r d) (hm : s.heap.DictAt knd d kvs ep) (hn : kvs.length ≤ sizeLine)
    (hQ : ∀ (h' : Heap) (tk : Nat) (as : List Addr), Taken knd kvs s.heap h' as → Q (as.map Value.ref) { s with heap := h', toks := tk }) :
    wpAny (model prog w) A (collect (.ref r)) Q E s := by
  have lr : r < s.heap.objs.size := by obtain ⟨o, e, _⟩ := hv; exact Heap.lt_size e
  have ld : d < s.heap.objs.size := hm.lt_size
  have e0 : (s.heap.push { cls := .type "list", data := .seq ([] : List Value).toArray }).get? s.heap.objs.size = some { cls := .type "list", data := .seq #[] 0 } := Heap.get?_push_size _ rfl
  have sz : (s.heap.push { cls := .type "list", data := .seq ([] : List Value).toArray }).objs.size = s.heap.objs.size + 1 := Heap.size_push ..
  have step : ∀ (as : List Addr) (acc : Array Value) (c : Nat) (h' : Heap) (tk : Nat), Taken knd kvs s.heap h' as → acc.toList = as.map Value.ref → h'.get? s.heap.objs.size = some { cls := .type "list", dict := none, data := .seq acc c, slots := #[] } →
      Q acc.toList { s with heap := h', toks := tk } := fun as acc c h' tk t e _ => by rw [e]; exact hQ h' tk as t
  unfold collect
  refine wpAny_bind (wpAny_runValue (codeAny_builtin F.entry_proto_collect ?_))
  rw [Around.under_plainId F.plain_proto_collect _]
  show wpAny _ A.in1 (newList [] >>= fun l => again (.builtin "list.__iadd__" ⟨[l, .ref r], []⟩)) _ _ s
  refine wpAny_bind (wpAny_newObj_type (wpAny_pure ⟨plainId_quiet F.plain_list_iadd _, codeAny_builtin F.entry_list_iadd ?_⟩))
  rw [Around.under_plainId F.plain_list_iadd _]
  show wpAny _ A.in1 (Builtin.List.listExtendWith (.ref s.heap.objs.size) (.ref r) (.ref s.heap.objs.size)) _ _ _
  refine wpAny_mono (PySem.W.kdx_extend (A := A) (knd := knd) (kvs := kvs) (ep := ep) (d := d) (s := { s with heap := s.heap.push { cls := .type "list", data := .seq ([] : List Value).toArray } })
    (R := fun rr s' => rr = .ok (.ret (.ref s.heap.objs.size)) ∧ ∃ (h' : Heap) (tk : Nat) (as : List Addr) (acc : Array Value) (c : Nat), s' = { s with heap := h', toks := tk } ∧ Taken knd kvs s.heap h' as ∧ acc.toList = as.map Value.ref ∧
      h'.get? s.heap.objs.size = some { cls := .type "list", dict := none, data := .seq acc c, slots := #[] }) hh (let ⟨o, e, c⟩ := hv; ⟨o, Heap.get?_push_of_some _ e, c⟩) (hm.push _) s.heap.objs.size (Nat.ne_of_gt lr) (Nat.ne_of_lt ld) _ 0 e0
    (fun h' tk acc c as k e hl hG ha => ⟨rfl, h', tk, as, acc, c, rfl, ⟨fun b o q => k b o (Nat.ne_of_lt (Heap.lt_size q)) (Heap.get?_push_of_some _ q), hl, hG.low (by rw [sz]; exact Nat.le_succ _), acc, c, ha, e⟩, ha, e⟩) hn) (fun f s' h => ?_) (fun e s' h => absurd h.1 (by simp))
  cases f with
  | done f =>
    obtain ⟨e, h', tk, as, acc, c, rfl, t, ha, g⟩ := h
    cases e
    exact wpAny_bind (wpAny_load g (wpAny_pure (step as acc c h' tk t ha g)))
  | again c' =>
    refine ⟨h.1, codeAny_mono h.2 fun rr s2 q => ?_⟩
    obtain ⟨rfl, h', tk, as, acc, c, rfl, t, ha, g⟩ := q
    show wpAny _ A (load s.heap.objs.size >>= _) _ _ _
    exact wpAny_bind (wpAny_load g (wpAny_pure (step as acc c h' tk t ha g)))
theorem code_tuple_view {Q : Value → Shared → Prop} (hh : A.handled = none) (hv : s.heap.IsItemsView r d) (hm : s.heap.DictAt knd d kvs ep) (hn : kvs.length ≤ sizeLine)
    (hQ : ∀ (h' : Heap) (tk : Nat) (as : List Addr), Taken knd kvs s.heap h' as → Q (.ref h'.objs.size) { s with heap := h'.push { cls := .type "tuple", data := .seq (as.map Value.ref).toArray }, toks := tk }) :
    codeAny (model prog w) A (.call (.builtin "tuple.__new__") ⟨[.type "tuple", .ref r], []⟩) (wants Q E) s := by
  refine codeAny_of_tree ?_
  show wpAny _ A.in1 (do checkBuiltinCall "tuple.__new__" ⟨[.type "tuple", .ref r], []⟩; again (.builtin "tuple.__new__" ⟨[.type "tuple", .ref r], []⟩)) _ _ s
  refine wpAny_bind (wpAny_of_eq (F.newCall_tuple_1 _) (wpAny_pure ⟨plainId_quiet F.plain_tuple_new _, codeAny_builtin F.entry_tuple_new ?_⟩))
  rw [Around.under_plainId F.plain_tuple_new _]
  have k1 := sub_tuple_self
  have k2 := init_tuple_lookup
  have k3 := madeHere_tuple
  have k4 : s.TypeIs (.ref r) "dict_items" := hv.typeIs
  have k5 : A.in1.handled = none := hh
  wp_walk using wpAny_typeOf k4, collect_view (A := A.in1) (knd := knd) (kvs := kvs) (ep := ep) k5 hv hm hn
  intro h' tk as t
  show wpAny _ _ (Builtin.Tuple.tupleExact (as.map Value.ref).toArray >>= fun v => ret v) _ _ _
  unfold Builtin.Tuple.tupleExact
  exact wpAny_bind (wpAny_newObj_type (wpAny_pure (hQ h' tk as t)) (by show (as.map Value.ref).toArray.size ≤ sizeLine; rw [List.size_toArray, List.length_map, t.2.1]; exact hn))
theorem call_tuple_view {Q : Value → Shared → Prop} (hh : A.handled = none) (hv : s.heap.IsItemsView r d) (hm : s.heap.DictAt knd d kvs ep) (hn : kvs.length ≤ sizeLine)
    (hQ : ∀ (h' : Heap) (tk : Nat) (as : List Addr), Taken knd kvs s.heap h' as → Q (.ref h'.objs.size) { s with heap := h'.push { cls := .type "tuple", data := .seq (as.map Value.ref).toArray }, toks := tk }) :
    wpAny (model prog w) A (call (.type "tuple") [.ref r]) Q E s := by
  refine callType_codes (Q₁ := fun obj s₁ => s₁.TypeIs obj "tuple" ∧ Q obj s₁) F.called_tuple (F.typeCall_tuple_1 _) F.entry_object_init
    (code_tuple_view (A := A.in1) hh hv hm hn fun h' tk as t => ⟨⟨_, Heap.get?_push_size _ rfl, rfl⟩, hQ h' tk as t⟩) fun obj s1 q => ?_
  exact ⟨q.1, F.args_object_init_2 obj _, object_init_meets F.called_tuple.init.lookup F.called_tuple.made (by decide) prog w A.in1 _ s1 ⟨q.1, rfl, q.2⟩⟩
end
/-- tuple(d.items()): a new tuple of new pairs -/
def tTupItems (te : TE) : TE := fun σ H Q => te σ H fun x H1 => ∃ (d : Addr) (kvs : List (Key × V)), x = .ref d ∧ H1 d = some (.dK kvs) ∧
  ∀ (H' : Hp) (p : Addr) (ts : List Addr), Same H1 H' → H1 p = none → H' p = some (.tup (ts.map V.ref)) → Paired (fun (t : Addr) (q : Key × V) => H' t = some (.tup [kV q.1, q.2])) ts kvs → Q (.ref p) H'
section
variable {X : Cx} {e : Expr} {te : TE} {p apos cpos pos : Pos}
theorem pe_tupleItems (hc : X.calm = true) (he : PE X e te) (hg : Gl X "tuple") (hm : X.mg "tuple" = none) (hbase : attributeBase e "items" X.env (eval e X.env) = eval e X.env := by rfl) (hline : (apos.endLine == cpos.line) = true := by rfl)
    (hs : starEach [.Call (.Attribute e "items" apos) [] [] cpos] X.env = (false, eval (.Call (.Attribute e "items" apos) [] [] cpos) X.env) :: starEach [] X.env := by rfl) :
    PE X (.Call (.Name "tuple" p) [.Call (.Attribute e "items" apos) [] [] cpos] [] pos) (tTupItems te) := by
  refine ⟨fun pins s σ H Q I hq => ?_⟩
  refine wpAny_Call_Name_kw (ld_blt I hg hm PyProof.Rows.boot_tuple (PyProof.Rows.callWith_type1 ?_ hs rfl))
  rw [hs]
  show wpAny _ _ (spliced ((false, eval (.Call (.Attribute e "items" apos) [] [] cpos) X.env) :: backTo pos (starEach [] X.env))) _ _ s
  refine Calls.spliced_cons (wpAny_Call_method (T := "dict") (id := "dict.items") hbase rfl hline F.plainAttrs_dict F.slot_dict_items F.type_dict_items (thn (he.run pins s σ H _ I hq) fun u s1 ⟨x, H1, I1, rx, d, kvs, ex, hd, q⟩ => ?_))
  subst ex
  obtain rfl : u = Value.ref d := rx
  obtain ⟨hz, n0, vs, kv, hdo⟩ := I1.hok d _ hd
  obtain ⟨ep, hat⟩ := hdo.dictAt
  have lk : kvs.length = vs.length := Paired.length kv
  have I2 : Inv X pins σ H1 { s1 with heap := s1.heap.push { cls := .type "dict_items", data := .fields #[.ref d] } } := I1.kept (t' := s1.toks) fun b o q => Heap.get?_push_of_some _ q
  refine ⟨hdo.typeIs, hdo.mapOf.noDict, ?_⟩
  show wpAny _ _ (callWith cpos (.builtin "dict.items") [.ref d] [] []) _ X.xe s1
  refine method_meetsIn F.slot_dict_items F.entry_dict_items rfl (PySem.evalArgs_none ⟨rfl, hdo.typeIs, F.args_dict_items_1 _, _, meets_dict_items (mixKind X.prog X.w) d n0, ⟨vs, hdo⟩, ?_⟩)
  refine Calls.spliced_nil ?_
  refine call_tuple_view (knd := mixKind X.prog X.w) (kvs := vs) (ep := ep) (I1.ok.hd hc) ⟨_, Heap.get?_push_size _ rfl, rfl, rfl⟩ (hat.push _) (by omega) fun h' tk as ⟨k, hl, hG, acc, c, ha, hS⟩ => ?_
  obtain ⟨H', k1, k2, k3, k4, k5, k6, J⟩ := LiI.items_laid (tk := tk) I2 hz kv k hS hl hG ha
  have hx : (as.map V.ref).length ≤ sizeLine := by rw [List.length_map, hl]; omega
  have J2 := J.laid (a := h'.objs.size) (o := .tup (as.map V.ref)) (t' := tk) (h' := h'.push { cls := .type "tuple", data := .seq (as.map Value.ref).toArray }) (fun b o e => Heap.get?_push_of_some _ e) (Nat.le_refl _) ⟨hx, as.map Value.ref, LiI.vals_refs as, IsTup.new _ _⟩
  have hp : H' h'.objs.size = none := J.hok.fresh (Nat.le_refl _)
  refine ⟨.ref h'.objs.size, _, J2, rfl, q _ _ as (fun b o e => Same.new hp _ _ _ (k1 b o e)) ?_ upd_same ?_⟩
  · cases e1 : H1 h'.objs.size with
    | none => rfl
    | some o => rw [k1 _ _ e1] at hp; cases hp
  · exact Paired.mono (fun t q e => Same.new hp _ _ _ e) k6
end
end Td
/-! tuple(zip(t, u)) of two tuples as long as each other. -/
namespace Td
open PySem
/-- pairs one behind the other, while at S a list is being filled -/
structure TupSrc (prog : Program) (w : World) (A : Around) (I S : Addr) (wr : List Addr) (n : Nat) (xs ys : Array Value) (St : Nat → Heap → Prop) : Prop where
  off : S ∉ wr
  low : ∀ b ∈ wr, (b : Nat) < S
  frame : ∀ i h h', St i h → (∀ b o, b ≠ S → h.get? b = some o → h'.get? b = some o) → St i h'
  item : ∀ i (s : Shared) (Q : Option Value → Shared → Prop) (E : Value → Shared → Prop), i < n → St i s.heap → S < s.heap.objs.size →
    (∀ x y h' tk, xs[i]? = some x → ys[i]? = some y → IsTupOf2 h' s.heap.objs.size x y → St (i + 1) h' → (∀ b o, b ∉ wr → s.heap.get? b = some o → h'.get? b = some o) → Q (some (.ref s.heap.objs.size)) { s with heap := h', toks := tk }) → wpAny (model prog w) A (pyNext (.ref I)) Q E s
  done : ∀ (s : Shared) (Q : Option Value → Shared → Prop) (E : Value → Shared → Prop), St n s.heap →
    (∀ h' tk, (∀ b o, b ∉ wr → s.heap.get? b = some o → h'.get? b = some o) → Q none { s with heap := h', toks := tk }) → wpAny (model prog w) A (pyNext (.ref I)) Q E s
/-- what has been taken -/
def Got2 (xs ys : Array Value) (S : Addr) (acc : Array Value) (i : Nat) (h : Heap) : Prop := ∃ as : List Addr, acc.toList = as.map Value.ref ∧ as.length = i ∧ as.Pairwise (· < ·) ∧ (∀ a ∈ as, S < a) ∧ ∀ (j : Nat) (a : Addr), as[j]? = some a → ∃ x y, xs[j]? = some x ∧ ys[j]? = some y ∧ IsTupOf2 h a x y
theorem Got2.keep {xs ys : Array Value} {S : Addr} {acc : Array Value} {i : Nat} {h h' : Heap} (g : Got2 xs ys S acc i h) (k : ∀ b o, S < b → h.get? b = some o → h'.get? b = some o) : Got2 xs ys S acc i h' := by
  obtain ⟨as, g1, g2, g3, g4, g5⟩ := g
  refine ⟨as, g1, g2, g3, g4, fun j a e => ?_⟩
  obtain ⟨x, y, e1, e2, e3⟩ := g5 j a e
  exact ⟨x, y, e1, e2, k _ _ (g4 a (List.mem_of_getElem? e)) e3⟩
theorem Got2.more {xs ys : Array Value} {S T : Addr} {acc : Array Value} {i : Nat} {h : Heap} {x y : Value} (g : Got2 xs ys S acc i h) (hT : ∀ a, Value.ref a ∈ acc.toList → a < T) (hS : S < T) (hx : xs[i]? = some x) (hy : ys[i]? = some y) (ht : IsTupOf2 h T x y) : Got2 xs ys S (acc.push (.ref T)) (i + 1) h := by
  obtain ⟨as, g1, g2, g3, g4, g5⟩ := g
  refine ⟨as ++ [T], ?_, ?_, ?_, ?_, ?_⟩
  · rw [Array.toList_push, g1, List.map_append]; rfl
  · rw [List.length_append, g2]; rfl
  · rw [List.pairwise_append]
    refine ⟨g3, by simp, fun a ha b hb => ?_⟩
    rw [List.mem_singleton.mp hb]
    exact hT a (by rw [g1]; exact List.mem_map_of_mem ha)
  · intro a ha
    rcases List.mem_append.mp ha with h | h
    · exact g4 a h
    · rw [List.mem_singleton.mp h]; exact hS
  · intro j a e
    by_cases hj : j < as.length
    · rw [List.getElem?_append_left hj] at e
      exact g5 j a e
    · rw [List.getElem?_append_right (by omega)] at e
      have : j - as.length = 0 := by
        have := (List.getElem?_eq_some_iff.mp e).1
        simp at this
        omega
      rw [this] at e
      obtain rfl := Option.some.inj e
      have ej : j = i := by omega
      rw [ej]
      exact ⟨x, y, hx, hy, ht⟩
section
variable {prog : Program} {w : World} {A : Around} {R : Result → Shared → Prop} {I S : Addr} {wr : List Addr} {n : Nat} {xs ys : Array Value} {St : Nat → Heap → Prop}
theorem tz_loop (W : TupSrc prog w A.in1 I S wr n xs ys St) (hn : n ≤ sizeLine) (res : Value) : ∀ (k i : Nat) (s : Shared) (acc : Array Value) (c : Nat), n - i = k → i ≤ n → St i s.heap → s.heap.get? S = some { cls := .type "list", dict := none, data := .seq acc c, slots := #[] } → Got2 xs ys S acc i s.heap →
    (∀ h' tk acc' c', (∀ b o, b ∉ S :: wr → s.heap.get? b = some o → h'.get? b = some o) → h'.get? S = some { cls := .type "list", dict := none, data := .seq acc' c', slots := #[] } → Got2 xs ys S acc' n h' → R (.ok (.ret res)) { s with heap := h', toks := tk }) →
    codeAny (model prog w) A (.builtin "list.extend.loop" ⟨[.ref S, .ref I, res], []⟩) R s
  | 0, i, s, acc, c, e, hi, st, hS, g, fin => by
    obtain rfl : i = n := by omega
    refine codeAny_builtin F.entry_extend_loop ?_
    rw [Around.under_plainId F.plain_extend_loop _]
    show wpAny _ A.in1 (pyNext (.ref I) >>= _) _ _ s
    refine wpAny_bind (W.done s _ _ st fun h' tk k => wpAny_pure (fin h' tk acc c (fun b o nb e => k b o (fun z => nb (List.mem_cons_of_mem _ z)) e) (k _ _ W.off hS) (g.keep fun b o lt e => k b o (fun z => ?_) e)))
    exact absurd (W.low b z) (Nat.lt_asymm lt)
  | k + 1, i, s, acc, c, e, hi, st, hS, g, fin => by
    have lS := Heap.lt_size hS
    have notwr : ∀ b : Addr, S < b → b ∉ wr := fun b lt z => absurd (W.low b z) (Nat.lt_asymm lt)
    refine codeAny_builtin F.entry_extend_loop ?_
    rw [Around.under_plainId F.plain_extend_loop _]
    show wpAny _ A.in1 (pyNext (.ref I) >>= _) _ _ s
    refine wpAny_bind (W.item i s _ _ (by omega) st lS fun x y h' tk hx hy ht st' kp => ?_)
    have hS' := kp S _ W.off hS
    have g' : Got2 xs ys S acc i h' := g.keep fun b o lt e => kp b o (notwr b lt) e
    have below : ∀ a, Value.ref a ∈ acc.toList → a < s.heap.objs.size := fun a ha => by
      obtain ⟨as, g1, _, _, g4, g5⟩ := g
      rw [g1] at ha
      obtain ⟨b, hb, eb⟩ := List.mem_map.mp ha
      injection eb with eb
      obtain ⟨j, hj⟩ := List.getElem?_of_mem hb
      obtain ⟨_, _, _, _, e⟩ := g5 j b hj
      rw [← eb]
      exact Heap.lt_size e
    have ga : acc.size = i := by
      obtain ⟨as, g1, g2, _⟩ := g
      rw [← Array.length_toList, g1, List.length_map, g2]
    have more := g'.more below lS hx hy ht
    have other : ∀ b o, b ≠ S → h'.get? b = some o → (h'.update S (Obj.mapSeq (·.push (.ref s.heap.objs.size)))).get? b = some o := fun b o nb e => (Heap.get?_update_other _ _ (Ne.symm nb)).trans e
    show wpAny _ A.in1 (updateSeq S (·.push (.ref s.heap.objs.size)) >>= _) _ _ _
    refine wpAny_bind (wpAny_updateSeq hS' rfl (wpAny_pure ⟨plainId_quiet F.plain_extend_loop _, tz_loop W hn res k (i + 1) _ (acc.push (.ref s.heap.objs.size)) _ (by omega) (by omega) (W.frame _ h' _ st' fun b o nb e => other b o nb e) (Heap.get?_update_self _ hS' rfl)
      (more.keep fun b o lt e => other b o (fun z => absurd lt (by rw [z]; exact Nat.lt_irrefl _)) e) fun h2 tk2 acc' c' kp2 eS2 g2 => ?_⟩) (by rw [ga]; omega) (by show (acc.push _).size ≤ sizeLine + 1; rw [Array.size_push, ga]; omega))
    exact fin h2 tk2 acc' c' (fun b o nb e => kp2 b o nb (other b o (fun z => nb (by rw [z]; exact List.mem_cons_self)) (kp b o (fun z => nb (List.mem_cons_of_mem _ z)) e))) eS2 g2
end
/-- the zip of two tuples -/
theorem zipSrc {prog : Program} {w : World} {A : Around} (hA : A.handled = none) {z TI TO i1 i2 a b S : Addr} (Z : ZipSep2 z TI TO i1 i2 [i1, a] [i2, b]) (xs ys : Array Value) (hl : xs.size = ys.size) (lz : z < S) (lTI : TI < S) (lTO : TO < S) (l1 : i1 < S) (l2 : i2 < S) (la : a < S) (lb : b < S) (da : a ≠ i1) (db : b ≠ i2) :
    TupSrc prog w A z S [z, TO, i1, i2] xs.size xs ys (fun i g => IsTupOf2 g TI (.ref i1) (.ref i2) ∧ (g.IsTupleIter i1 a i ∧ g.IsTuple a xs) ∧ (g.IsTupleIter i2 b i ∧ g.IsTuple b ys) ∧
      ((IsZip g z TI TO .none ∧ IsTupOf2 g TO .none .none) ∨ ∃ T f oT, IsZipHeld g z TI TO T f ∧ g.get? T = some oT ∧ T ≠ z ∧ T ≠ i1 ∧ T ≠ i2 ∧ T ≠ S)) := by
  have D1 := Draws.tuple (prog := prog) (w := w) (A := A.in1) hA i1 a da xs
  have D2 := Draws.tuple (prog := prog) (w := w) (A := A.in1) hA i2 b db ys
  have dz : z ≠ S := Nat.ne_of_lt lz
  have dI : TI ≠ S := Nat.ne_of_lt lTI
  have dO : TO ≠ S := Nat.ne_of_lt lTO
  have d1 : i1 ≠ S := Nat.ne_of_lt l1
  have d2 : i2 ≠ S := Nat.ne_of_lt l2
  have d3 : a ≠ S := Nat.ne_of_lt la
  have d4 : b ≠ S := Nat.ne_of_lt lb
  refine ⟨fun hm => ?_, fun c hc => ?_, fun i g g' st k => ?_, fun i s1 Q1 E1 hi st hds hQ => ?_, fun s1 Q1 E1 st hQ => ?_⟩
  · simp only [List.mem_cons, List.not_mem_nil, or_false] at hm
    rcases hm with e | e | e | e
    · exact dz e.symm
    · exact dO e.symm
    · exact d1 e.symm
    · exact d2 e.symm
  · simp only [List.mem_cons, List.not_mem_nil, or_false] at hc
    rcases hc with rfl | rfl | rfl | rfl <;> assumption
  · obtain ⟨p1, ⟨p2, p3⟩, ⟨p4, p5⟩, p6⟩ := st
    refine ⟨k _ _ dI p1, ⟨p2.at fun o => k _ o d1, p3.at fun o => k _ o d3⟩, ⟨p4.at fun o => k _ o d2, p5.at fun o => k _ o d4⟩, ?_⟩
    rcases p6 with ⟨r1, r2⟩ | ⟨T, f, oT, r1, r2, r3, r4, r5, r6⟩
    · exact .inl ⟨k _ _ dz r1, k _ _ dO r2⟩
    · exact .inr ⟨T, f, oT, k _ _ dz r1, k _ _ r6 r2, r3, r4, r5, r6⟩
  · obtain ⟨p1, p2, p4, p6⟩ := st
    have old : ∀ {c o}, s1.heap.get? c = some o → s1.heap.objs.size ≠ c := fun e => Nat.ne_of_gt (Heap.lt_size e)
    have m1 : s1.heap.objs.size ≠ i1 := let ⟨⟨_, e, _⟩, _⟩ := p2; old e
    have m2 : s1.heap.objs.size ≠ i2 := let ⟨⟨_, e, _⟩, _⟩ := p4; old e
    rcases p6 with ⟨r1, r2⟩ | ⟨T, f, oT, r1, r2, r3, r4, r5, r6⟩
    · refine wpAny_pyNext_zipD2_item Z D1 D2 r1 p1 r2 p2 p4 hi (hl ▸ hi) fun x y h' tk px py b1 _ c1 c2 b5 _ k => ?_
      exact hQ x y h' tk px py b5 ⟨k _ _ Z.TIz Z.TITO Z.TIi1 Z.TIi2 p1, c1, c2, .inr ⟨_, false, _, b1, b5, old r1, m1, m2, Nat.ne_of_gt hds⟩⟩
        fun c o hc e => k c o (fun v => hc (by simp [v])) (fun v => hc (by simp [v])) (fun v => hc (by simp [v])) (fun v => hc (by simp [v])) e
    · refine next_held_item Z D1 D2 r1 r2 p1 p2 p4 hi (hl ▸ hi) fun x y h' tk px py b1 c1 c2 b5 k => ?_
      exact hQ x y h' tk px py b5 ⟨k _ _ Z.TIz Z.TIi1 Z.TIi2 p1, c1, c2, .inr ⟨T, true, oT, b1, k _ _ r3 r4 r5 r2, r3, r4, r5, r6⟩⟩
        fun c o hc e => k c o (fun v => hc (by simp [v])) (fun v => hc (by simp [v])) (fun v => hc (by simp [v])) e
  · obtain ⟨p1, p2, p4, p6⟩ := st
    rcases p6 with ⟨r1, r2⟩ | ⟨T, f, oT, r1, r2, r3, r4, r5, r6⟩
    · exact wpAny_pyNext_zipD2_end Z D1 D2 r1 p1 r2 p2 p4 (Nat.le_refl _) (by omega) (.inl rfl) fun h' tk k => hQ h' tk fun c o hc e => k c o (fun v => hc (by simp [v])) (fun v => hc (by simp [v])) (fun v => hc (by simp [v])) (fun v => hc (by simp [v])) e
    · exact next_held_end Z D1 r1 r2 p1 p2 fun h' k => hQ h' s1.toks fun c o hc e => k c o (fun v => hc (by simp [v])) (fun v => hc (by simp [v])) e
theorem zip_len_none : typeLookup (.type "zip") "__len__" = pure none := by rw [typeLookup_type, builtinLookup_eq_fast]; kernel_rfl
theorem zip_hint_none : typeLookup (.type "zip") "__length_hint__" = pure none := by rw [typeLookup_type, builtinLookup_eq_fast]; kernel_rfl
section
variable {prog : Program} {w : World} {A : Around} {E : Value → Shared → Prop} {s : Shared} {z TI TO i1 i2 a b : Addr}
/-- the zip is made, nothing taken yet -/
structure ZipAt (h : Heap) (z TI TO i1 i2 a b : Addr) (xs ys : Array Value) : Prop where
  sep : ZipSep2 z TI TO i1 i2 [i1, a] [i2, b]
  da : a ≠ i1
  db : b ≠ i2
  z : IsZip h z TI TO .none
  ti : IsTupOf2 h TI (.ref i1) (.ref i2)
  to : IsTupOf2 h TO .none .none
  i1 : h.IsTupleIter i1 a 0
  i2 : h.IsTupleIter i2 b 0
  a : h.IsTuple a xs
  b : h.IsTuple b ys
theorem lt_of_tup {h : Heap} {a : Addr} {xs : Array Value} (q : h.IsTuple a xs) : a < h.objs.size := let ⟨_, e, _⟩ := q; Heap.lt_size e
theorem lt_of_it {h : Heap} {a b : Addr} {i : Nat} (q : h.IsTupleIter a b i) : a < h.objs.size := let ⟨_, e, _⟩ := q; Heap.lt_size e
theorem collect_zip {xs ys : Array Value} {Q : List Value → Shared → Prop} (hh : A.handled = none) (Z : ZipAt s.heap z TI TO i1 i2 a b xs ys) (hl : xs.size = ys.size) (hn : xs.size ≤ sizeLine)
    (hQ : ∀ (h' : Heap) (tk : Nat) (acc : Array Value) (c : Nat), (∀ b o, b ∉ [z, TO, i1, i2] → s.heap.get? b = some o → h'.get? b = some o) → h'.get? s.heap.objs.size = some { cls := .type "list", dict := none, data := .seq acc c, slots := #[] } → Got2 xs ys s.heap.objs.size acc xs.size h' → Q acc.toList { s with heap := h', toks := tk }) :
    wpAny (model prog w) A (collect (.ref z)) Q E s := by
  have lz : z < s.heap.objs.size := Heap.lt_size Z.z
  have lI : TI < s.heap.objs.size := Heap.lt_size Z.ti
  have lO : TO < s.heap.objs.size := Heap.lt_size Z.to
  have ks : ∀ b o, s.heap.get? b = some o → (s.heap.push { cls := .type "list", data := .seq ([] : List Value).toArray }).get? b = some o := fun b o e => Heap.get?_push_of_some _ e
  have eS : (s.heap.push { cls := .type "list", data := .seq ([] : List Value).toArray }).get? s.heap.objs.size = some { cls := .type "list", data := .seq ([] : List Value).toArray } := Heap.get?_push_size _ rfl
  have W := zipSrc (prog := prog) (w := w) (A := A.in1) hh Z.sep xs ys hl lz lI lO (lt_of_it Z.i1) (lt_of_it Z.i2) (lt_of_tup Z.a) (lt_of_tup Z.b) Z.da Z.db
  have eU := Heap.get?_update_self (Obj.mapSeq (·.push Value.none)) eS rfl
  have eV := Heap.get?_update_self (Obj.mapSeq (·.pop)) eU rfl
  have kv : ∀ b o, b ≠ s.heap.objs.size → (s.heap.push { cls := .type "list", data := .seq ([] : List Value).toArray }).get? b = some o →
      (((s.heap.push { cls := .type "list", data := .seq ([] : List Value).toArray }).update s.heap.objs.size (Obj.mapSeq (·.push Value.none))).update s.heap.objs.size (Obj.mapSeq (·.pop))).get? b = some o :=
    fun b o nb e => (Heap.get?_update_other _ _ (Ne.symm nb)).trans ((Heap.get?_update_other _ _ (Ne.symm nb)).trans e)
  have tz : ∀ {h : Heap}, (∀ b o, s.heap.get? b = some o → h.get? b = some o) → ∃ o, h.get? z = some o ∧ o.cls = .type "zip" := fun k => ⟨_, k _ _ Z.z, rfl⟩
  unfold collect
  refine wpAny_bind (wpAny_runValue (codeAny_builtin F.entry_proto_collect ?_))
  rw [Around.under_plainId F.plain_proto_collect _]
  show wpAny _ A.in1 (newList [] >>= fun l => again (.builtin "list.__iadd__" ⟨[l, .ref z], []⟩)) _ _ s
  refine wpAny_bind (wpAny_newObj_type (wpAny_pure ⟨plainId_quiet F.plain_list_iadd _, codeAny_builtin F.entry_list_iadd ?_⟩))
  rw [Around.under_plainId F.plain_list_iadd _]
  show wpAny _ A.in1 (Builtin.List.listExtendWith (.ref s.heap.objs.size) (.ref z) (.ref s.heap.objs.size)) _ _ _
  unfold Builtin.List.listExtendWith
  have ty : Shared.TypeIs { s with heap := s.heap.push { cls := .type "list", data := .seq ([] : List Value).toArray } } (.ref z) "zip" := tz ks
  refine wpAny_bind (wpAny_typeOf ty ?_)
  have h1 : Builtin.List.listSameRef (.ref s.heap.objs.size) (.ref z) = false := by simp [Builtin.List.listSameRef, Nat.ne_of_gt lz]
  have h2 : (Value.type "zip" == Value.type "list") = false := by decide
  have h3 : (Value.type "zip" == Value.type "tuple") = false := by decide
  simp only [h1, h2, h3, Bool.or_false, Bool.false_eq_true, if_false]
  refine wpAny_bind (wpAny_pyIter_zip (ks _ _ Z.z) ?_)
  refine wpAny_bind (wpAny_holding ?_)
  unfold Builtin.List.listLengthHint
  refine wpAny_bind (wpAny_specialOf ty zip_len_none ?_)
  show wpAny _ A.in1 (specialOf (Value.ref z) (Str.ofString "__length_hint__") >>= _) _ _ _
  refine wpAny_bind (wpAny_specialOf ty zip_hint_none (wpAny_pure ?_))
  show wpAny _ A.in1 (rule "list.extend.makes-room" >>= fun _ => Builtin.List.listTouch (.ref s.heap.objs.size) >>= fun _ =>
    again (.builtin "list.extend.loop" ⟨[.ref s.heap.objs.size, .ref z, .ref s.heap.objs.size], []⟩)) _ _ _
  refine wpAny_bind (wpAny_rule (wpAny_bind ?_))
  show wpAny _ A.in1 (updateSeq s.heap.objs.size (·.push .none) >>= fun _ => updateSeq s.heap.objs.size (·.pop)) _ _ _
  refine wpAny_bind (wpAny_updateSeq eS rfl (wpAny_updateSeq eU rfl ?_))
  refine wpAny_pure ⟨plainId_quiet F.plain_extend_loop _, tz_loop W hn _ _ 0 _ _ _ rfl (Nat.zero_le _) ?_ eV ⟨[], rfl, rfl, .nil, (fun a ha => by cases ha), fun j a e => by simp at e⟩ fun h' tk acc c k eL g => ?_⟩
  · have kk : ∀ b o, b < s.heap.objs.size → s.heap.get? b = some o → _ := fun b o lt e => kv b o (Nat.ne_of_lt lt) (ks b o e)
    exact ⟨kk _ _ lI Z.ti, ⟨Z.i1.at fun o e => kk _ o (lt_of_it Z.i1) e, Z.a.at fun o e => kk _ o (lt_of_tup Z.a) e⟩, ⟨Z.i2.at fun o e => kk _ o (lt_of_it Z.i2) e, Z.b.at fun o e => kk _ o (lt_of_tup Z.b) e⟩, .inl ⟨kk _ _ lz Z.z, kk _ _ lO Z.to⟩⟩
  · show wpAny _ A (load s.heap.objs.size >>= _) _ _ _
    refine wpAny_bind (wpAny_load eL (wpAny_pure ?_))
    refine hQ h' tk acc c (fun b o nb e => ?_) eL g
    have lt := Heap.lt_size e
    refine k b o (fun m => ?_) (kv b o (Nat.ne_of_lt lt) (ks b o e))
    rcases List.mem_cons.mp m with m | m
    · exact absurd lt (by rw [m]; exact Nat.lt_irrefl _)
    · exact nb m
end
open PySem.Spec PyProof.Rows L2
section
variable {prog : Program} {w : World} {A : Around} {E : Value → Shared → Prop} {s : Shared} {z TI TO i1 i2 a b : Addr} {xs ys : Array Value}
/-- what a heap holds behind all pairs are taken -/
def AllTaken (h h' : Heap) (z TO i1 i2 : Addr) (xs ys : Array Value) (acc : Array Value) : Prop := ∃ c, (∀ b o, b ∉ [z, TO, i1, i2] → h.get? b = some o → h'.get? b = some o) ∧ h'.get? h.objs.size = some { cls := .type "list", dict := none, data := .seq acc c, slots := #[] } ∧ Got2 xs ys h.objs.size acc xs.size h'
theorem AllTaken.size {h h' : Heap} {z TO i1 i2 : Addr} {acc : Array Value} (t : AllTaken h h' z TO i1 i2 xs ys acc) : acc.size = xs.size := by
  obtain ⟨c, _, _, as, g1, g2, _⟩ := t
  rw [← Array.length_toList, g1, List.length_map, g2]
theorem code_tuple_zip {Q : Value → Shared → Prop} (hh : A.handled = none) (Z : ZipAt s.heap z TI TO i1 i2 a b xs ys) (hl : xs.size = ys.size) (hn : xs.size ≤ sizeLine)
    (hQ : ∀ (h' : Heap) (tk : Nat) (acc : Array Value), AllTaken s.heap h' z TO i1 i2 xs ys acc → Q (.ref h'.objs.size) { s with heap := h'.push { cls := .type "tuple", data := .seq acc }, toks := tk }) :
    codeAny (model prog w) A (.call (.builtin "tuple.__new__") ⟨[.type "tuple", .ref z], []⟩) (wants Q E) s := by
  refine codeAny_of_tree ?_
  show wpAny _ A.in1 (do checkBuiltinCall "tuple.__new__" ⟨[.type "tuple", .ref z], []⟩; again (.builtin "tuple.__new__" ⟨[.type "tuple", .ref z], []⟩)) _ _ s
  refine wpAny_bind (wpAny_of_eq (F.newCall_tuple_1 _) (wpAny_pure ⟨plainId_quiet F.plain_tuple_new _, codeAny_builtin F.entry_tuple_new ?_⟩))
  rw [Around.under_plainId F.plain_tuple_new _]
  have k1 := sub_tuple_self
  have k2 := init_tuple_lookup
  have k3 := madeHere_tuple
  have k4 : s.TypeIs (.ref z) "zip" := ⟨_, Z.z, rfl⟩
  have k5 : A.in1.handled = none := hh
  wp_walk using wpAny_typeOf k4, collect_zip (A := A.in1) k5 Z hl hn
  intro h' tk acc c k e g
  show wpAny _ _ (Builtin.Tuple.tupleExact acc.toList.toArray >>= fun v => ret v) _ _ _
  unfold Builtin.Tuple.tupleExact
  have t : AllTaken s.heap h' z TO i1 i2 xs ys acc := ⟨c, k, e, g⟩
  have ea : acc.toList.toArray = acc := by simp
  rw [ea]
  exact wpAny_bind (wpAny_newObj_type (wpAny_pure (hQ h' tk acc t)) (by show acc.size ≤ sizeLine; rw [t.size]; exact hn))
theorem call_tuple_zip {Q : Value → Shared → Prop} (hh : A.handled = none) (Z : ZipAt s.heap z TI TO i1 i2 a b xs ys) (hl : xs.size = ys.size) (hn : xs.size ≤ sizeLine)
    (hQ : ∀ (h' : Heap) (tk : Nat) (acc : Array Value), AllTaken s.heap h' z TO i1 i2 xs ys acc → Q (.ref h'.objs.size) { s with heap := h'.push { cls := .type "tuple", data := .seq acc }, toks := tk }) :
    wpAny (model prog w) A (call (.type "tuple") [.ref z]) Q E s := by
  refine callType_codes (Q₁ := fun obj s₁ => s₁.TypeIs obj "tuple" ∧ Q obj s₁) F.called_tuple (F.typeCall_tuple_1 _) F.entry_object_init
    (code_tuple_zip (A := A.in1) hh Z hl hn fun h' tk acc t => ⟨⟨_, Heap.get?_push_size _ rfl, rfl⟩, hQ h' tk acc t⟩) fun obj s1 q => ?_
  exact ⟨q.1, F.args_object_init_2 obj _, object_init_meets F.called_tuple.init.lookup F.called_tuple.made (by decide) prog w A.in1 _ s1 ⟨q.1, rfl, q.2⟩⟩
end
/-- pairs that lie in the heap become ours -/
theorem pairs_laid {X : Cx} {pins : List (Addr × Obj)} {σ : L2.St} {H : Hp} {s : Shared} {h' : Heap} {tk : Nat} {kvs : List (Key × V)} {as : List Addr} (I : Inv X pins σ H s) (hk : ∀ b o, s.heap.get? b = some o → h'.get? b = some o) (len : as.length = kvs.length) (rise : as.Pairwise (· < ·))
    (low : ∀ a ∈ as, s.heap.objs.size ≤ a) (there : ∀ (j : Nat) (a : Addr) (q : Key × V), as[j]? = some a → kvs[j]? = some q → ∃ x y, RelV (kV q.1) x ∧ RelV q.2 y ∧ IsTupOf2 h' a x y) :
    ∃ H' : Hp, Same H H' ∧ Paired (fun (t : Addr) (q : Key × V) => H' t = some (.tup [kV q.1, q.2])) as kvs ∧ Inv X pins σ H' { s with heap := h', toks := tk } := by
  have nd : as.Nodup := rise.imp fun h => Nat.ne_of_lt h
  have fresh : ∀ a ∈ as, H a = none := fun a ha => I.hok.fresh (low a ha)
  have laid := LiI.putT_at as kvs H len nd
  have else_ : ∀ b, b ∉ as → LiI.putT H as kvs b = H b := fun b hb => LiI.putT_off as kvs H hb
  have kept : Same H (LiI.putT H as kvs) := fun b u e => by
    rw [else_ b fun z => by rw [fresh b z] at e; cases e]
    exact e
  refine ⟨_, kept, laid, ?_⟩
  have un : Un (frs X.stack) [] H (LiI.putT H as kvs) s.heap h' := by
    refine ⟨fun b o q _ _ _ => hk b o q, fun b o q _ _ _ => ⟨o.slots, hk b o q⟩, fun b o q none_ _ => ?_, fun b o q _ => ⟨o, hk b o q⟩, fun b xs q => kept b _ q, fun b o u q => kept b _ q, fun b ps q => ⟨#[], by rw [kept b _ q]; simp⟩⟩
    rw [else_ b fun z => absurd (Heap.lt_size q) (Nat.not_lt.mpr (low b z))]
    exact none_
  refine I.call' (ch := []) rfl un (fun b u q => ?_) I.bare fun b z => by cases z
  by_cases hb : b ∈ as
  · obtain ⟨j, pk, e1, e2, e3⟩ := LiI.paired_ix laid hb
    rw [e3] at q
    cases q
    obtain ⟨x, y, r1, r2, tt⟩ := there j b pk e1 e2
    exact ⟨by show 2 ≤ sizeLine; decide, [x, y], .cons r1 (.cons r2 .nil), ⟨_, tt, rfl, _, rfl⟩⟩
  · rw [else_ b hb] at q
    exact (I.hok b u q).stay (fun d v _ y => hk d v y) (fun d y => kept d _ y) fun d xs y => kept d _ y
/-- tuple(zip(t, u)): a new tuple of new pairs -/
def tTupZip (K : PySem.W.Frag) (t : TA) : TE := fun σ H Q => t σ H fun vs H1 => ∃ (a b : Addr) (ks : List Key) (ys : List V), vs = [.ref a, .ref b] ∧ SqT K H1 a (ks.map kV) ∧ SqT K H1 b ys ∧ ks.length = ys.length ∧
  ∀ (H' : Hp) (p : Addr) (ts : List Addr), Same H1 H' → H1 p = none → H' p = some (.tup (ts.map V.ref)) → Paired (fun (t : Addr) (q : Key × V) => H' t = some (.tup [kV q.1, q.2])) ts (ks.zip ys) → Q (.ref p) H'
theorem pe_tupZip {X : Cx} {e e2 : Expr} {t : TA} {p p2 pos pos2 : Pos} (hc : X.calm = true) (gd : Gl X "tuple") (md : X.mg "tuple" = none) (gz : Gl X "zip") (mz : X.mg "zip" = none) (ha : PA X [e, e2] t)
    (hs : starEach [e, e2] X.env = (false, eval e X.env) :: starEach [e2] X.env := by rfl) (hpl : (backTo pos2 (starEach [e2] X.env)).any (·.1) = false := by rfl)
    (ho : starEach [.Call (.Name "zip" p2) [e, e2] [] pos2] X.env = (false, eval (.Call (.Name "zip" p2) [e, e2] [] pos2) X.env) :: starEach [] X.env := by rfl) :
    PE X (.Call (.Name "tuple" p) [.Call (.Name "zip" p2) [e, e2] [] pos2] [] pos) (tTupZip X.K t) := by
  refine ⟨fun pins s σ H Q I h => ?_⟩
  refine wpAny_Call_Name_kw (ld_blt I gd md PyProof.Rows.boot_tuple ?_)
  refine PyProof.Rows.callWith_type1 ?_ ho rfl
  rw [ho]
  show wpAny _ _ (spliced ((false, eval (.Call (.Name "zip" p2) [e, e2] [] pos2) X.env) :: backTo pos (starEach [] X.env))) _ _ s
  refine Calls.spliced_cons ?_
  refine wpAny_Call_Name_kw (ld_blt I gz mz PyProof.Rows.boot_zip (PyProof.Rows.callWith_type1 (thn (ha.run pos2 pins s σ H _ I h) fun us s1 ⟨vs, H1, I1, r1, a, b, ks, ys, ev, hA, hB, hl, q⟩ => ?_) hs hpl))
  subst ev
  obtain ⟨u1, u2, eu, ra, rb⟩ := vals2 r1
  subst eu
  cases ra
  cases rb
  obtain ⟨xs', va, ta, za⟩ := I1.tuple hA
  obtain ⟨ys', vb, tb, zb⟩ := I1.tuple hB
  obtain ⟨o1, ho1, _⟩ := id ta
  obtain ⟨o2, ho2, _⟩ := id tb
  obtain ⟨hrel, hlen, hks⟩ := zip_rel va vb hl
  have ka : s1.heap.IsTuple a xs'.toArray := ta
  have kb : s1.heap.IsTuple b ys'.toArray := tb
  have lb := vb.length
  have xl : xs'.length ≤ sizeLine := by rw [hlen, ← List.length_map (f := kV) (as := ks)]; exact za
  have la : xs'.toArray.size = ys'.toArray.size := by simp; omega
  have g1 := Heap.lt_size ho1
  have g2 := Heap.lt_size ho2
  refine RZ.call_zipT (show s1.heap.IsTuple a xs'.toArray from ta) (show s1.heap.IsTuple b ys'.toArray from tb) fun h1 hz hTI hTO n1 n2 hsz hk => ?_
  refine Calls.spliced_nil ?_
  have Z : ZipAt h1 (s1.heap.objs.size + 4) (s1.heap.objs.size + 2) (s1.heap.objs.size + 3) s1.heap.objs.size (s1.heap.objs.size + 1) a b xs'.toArray ys'.toArray :=
    ⟨sepNat _ _ _ g1 g2, Nat.ne_of_lt g1, Nat.ne_of_lt (Nat.lt_succ_of_lt g2), hz, hTI, hTO, n1, n2, ka.at fun o e => hk _ _ e, kb.at fun o e => hk _ _ e⟩
  refine call_tuple_zip (s := { s1 with heap := h1 }) (I1.ok.hd hc) Z la (by simpa using xl) fun h' tk acc t => ?_
  obtain ⟨c, kp, eL, as, g1, g2, g3, g4, g5⟩ := t
  have hk2 : ∀ c o, s1.heap.get? c = some o → h'.get? c = some o := fun c o e => kp c o (notNew _ _ (Heap.lt_size e)) (hk c o e)
  have en : xs'.toArray.size = ks.length := by rw [List.size_toArray, hlen]
  have ez : (ks.zip ys).length = ks.length := by rw [List.length_zip]; omega
  have high : ∀ a ∈ as, s1.heap.objs.size ≤ a := fun a ha => by
    have := g4 a ha
    have h5 : s1.heap.objs.size ≤ h1.objs.size := by rw [hsz]; exact Nat.le_add_right _ _
    exact Nat.le_of_lt (Nat.lt_of_le_of_lt h5 this)
  obtain ⟨H', k1, k2, J⟩ := pairs_laid (tk := tk) (kvs := ks.zip ys) I1 hk2 (by rw [g2, en, ez]) g3 high fun j a q ea eq => by
    obtain ⟨x, y, ex, ey, tt⟩ := g5 j a ea
    obtain ⟨ek, ev⟩ := List.getElem?_zip_eq_some.mp eq
    obtain ⟨x2, ex2, rx⟩ := va.get (i := j) (x := kV q.1) (by rw [List.getElem?_map, ek]; rfl)
    obtain ⟨y2, ey2, ry⟩ := vb.get ev
    have e1 : xs'[j]? = some x := by simpa using ex
    have e2 : ys'[j]? = some y := by simpa using ey
    rw [e1] at ex2
    rw [e2] at ey2
    cases ex2
    cases ey2
    exact ⟨x, y, rx, ry, tt⟩
  have la2 : (as.map V.ref).length ≤ sizeLine := by rw [List.length_map, g2, List.size_toArray]; exact xl
  have eacc : acc = (as.map Value.ref).toArray := by rw [← g1]
  have J2 := J.laid (a := h'.objs.size) (o := .tup (as.map V.ref)) (t' := tk) (h' := h'.push { cls := .type "tuple", data := .seq acc }) (fun b o e => Heap.get?_push_of_some _ e) (Nat.le_refl _) ⟨la2, as.map Value.ref, LiI.vals_refs as, by rw [eacc]; exact IsTup.new _ _⟩
  have hp : H' h'.objs.size = none := J.hok.fresh (Nat.le_refl _)
  refine ⟨.ref h'.objs.size, _, J2, rfl, q _ _ as (fun b o e => Same.new hp _ _ _ (k1 b o e)) ?_ upd_same ?_⟩
  · cases e1 : H1 h'.objs.size with
    | none => rfl
    | some o => rw [k1 _ _ e1] at hp; cases hp
  · exact Paired.mono (fun t q e => Same.new hp _ _ _ e) k2
end Td
/-! Comprehensions that leave the heap as it was but for what they make: the new list by what each turn gives. -/
namespace Td
open PySem PySem.Spec PyProof.Rows L2
theorem filter_next {α : Type} {f : α → Bool} {l : List α} {i : Nat} {x : α} (h : l[i]? = some x) : (l.take (i + 1)).filter f = if f x = true then (l.take i).filter f ++ [x] else (l.take i).filter f := by
  rw [take_more h, List.filter_append]
  cases hf : f x <;> simp [hf]
/-- values that bear the things of a list, one each -/
structure Rws {α : Type} (R : Hp → V → α → Prop) (H : Hp) (zs : List V) (L : List α) : Prop where
  len : zs.length = L.length
  get : ∀ (i : Nat) (x : α), L[i]? = some x → ∃ v, zs[i]? = some v ∧ R H v x
section
variable {α : Type} {R : Hp → V → α → Prop} {H H' : Hp}
theorem Rws.nil : Rws R H [] [] := ⟨rfl, fun i x h => by simp at h⟩
theorem Rws.keep (m : ∀ {v x}, R H v x → R H' v x) {zs : List V} {L : List α} (h : Rws R H zs L) : Rws R H' zs L := ⟨h.len, fun i x e => by
  obtain ⟨v, h1, h2⟩ := h.get i x e
  exact ⟨v, h1, m h2⟩⟩
theorem Rws.snoc {zs : List V} {L : List α} {v : V} {x : α} (h : Rws R H zs L) (r : R H v x) : Rws R H (zs ++ [v]) (L ++ [x]) := by
  refine ⟨by rw [List.length_append, List.length_append, h.len]; rfl, fun i y e => ?_⟩
  by_cases hi : i < L.length
  · rw [List.getElem?_append_left hi] at e
    obtain ⟨v, h1, h2⟩ := h.get i y e
    exact ⟨v, by rw [List.getElem?_append_left (by rw [h.len]; exact hi)]; exact h1, h2⟩
  · rw [List.getElem?_append_right (by omega)] at e
    have : i - L.length = 0 := by
      have := (List.getElem?_eq_some_iff.mp e).1
      rw [List.length_singleton] at this
      omega
    rw [this] at e
    cases e
    exact ⟨v, by rw [List.getElem?_append_right (by rw [h.len]; omega), h.len, this]; rfl, r⟩
theorem Rws.inv {zs : List V} {L : List α} {i : Nat} {v : V} (h : Rws R H zs L) (e : zs[i]? = some v) : ∃ x, L[i]? = some x ∧ R H v x := by
  have hi : i < L.length := by rw [← h.len]; exact (List.getElem?_eq_some_iff.mp e).1
  obtain ⟨w, h1, h2⟩ := h.get i _ (List.getElem?_eq_getElem hi)
  rw [e] at h1
  cases h1
  exact ⟨_, List.getElem?_eq_getElem hi, h2⟩
theorem Rws.el {el : α → V} {zs : List V} {L : List α} (h : Rws (fun _ v x => v = el x) H zs L) : zs = L.map el := by
  refine List.ext_getElem? fun i => ?_
  rw [List.getElem?_map]
  by_cases hi : i < L.length
  · obtain ⟨w, h1, h2⟩ := h.get i _ (List.getElem?_eq_getElem hi)
    rw [h1, h2, List.getElem?_eq_getElem hi]
    rfl
  · rw [List.getElem?_eq_none (by rw [h.len]; omega), List.getElem?_eq_none (by omega)]
    rfl
theorem Rws.tn {K : PySem.W.Frag} {g : α → PyData} : ∀ {zs : List V} {L : List α}, Rws (fun H v x => Tn K H v (g x)) H zs L → TnAll K H zs (L.map g)
  | [], [], _ => .nil
  | [], _ :: _, h => by have := h.len; simp at this
  | _ :: _, [], h => by have := h.len; simp at this
  | v :: zs, x :: L, h => by
    obtain ⟨w, h1, h2⟩ := h.get 0 x rfl
    cases h1
    exact .cons h2 (Rws.tn ⟨by have := h.len; simpa using this, fun i y e => by simpa using h.get (i + 1) y (by simpa using e)⟩)
end
section
variable {K : PySem.W.Frag} {a : Addr} {xs : List V} {g : TG} {tt : TT} {te : TE} {vs : List Nat} {σ : L2.St} {H1 : Hp} {D : Addr} {Qd : Hp → Prop}
variable {α : Type} (L : List α) (en : α → V) (f : α → Bool) (R : Hp → V → α → Prop)
abbrev Turn (g : TG) (tt : TT) (te : TE) (vs : List Nat) (σ : L2.St) (v : V) (H : Hp) (Yes : V → Hp → Prop) (No : Hp → Prop) : Prop :=
  g v (wipe σ vs) H fun σ2 H2 => wipe σ2 vs = wipe σ vs ∧ tt σ2 H2 fun b H3 => if b = true then te σ2 H3 Yes else No H3
/-- over a tuple, any word J of the heap beside it -/
theorem bu_tup (J : Hp → Prop) (mono : ∀ {H H' : Hp} {v : V} {x : α}, TK H H' → R H v x → R H' v x) (hx : xs = L.map en) (hlen : L.length ≤ 1000) (h0 : J (upd H1 D (.lst [])))
    (hl : ∀ H', J H' → SqT K H' a xs) (hJ : ∀ (H' : Hp) (zs zs' : List V), J H' → H' D = some (.lst zs) → J (upd H' D (.lst zs')))
    (turn : ∀ (i : Nat) (x : α) (H' : Hp), L[i]? = some x → J H' → (∃ zs, H' D = some (.lst zs)) → ∀ (Yes : V → Hp → Prop) (No : Hp → Prop), (f x = true → ∀ (y : V) (H2 : Hp), J H2 → TK H' H2 → H2 D = H' D → R H2 y x → Yes y H2) → (f x = false → ∀ (H2 : Hp), J H2 → TK H' H2 → H2 D = H' D → No H2) → Turn g tt te vs σ (en x) H' Yes No)
    (over : ∀ (H' : Hp) (zs : List V), J H' → H' D = some (.lst zs) → Rws R H' zs (L.filter f) → Qd H') :
    ∃ W : Nat → Nat → Hp → Prop, (∃ m, W 0 m (upd H1 D (.lst []))) ∧ ∀ i m H, W i m H →
      ((Itt K a).stop i H ∧ Qd H) ∨ ((Itt K a).go i H ∧ ∃ Nx : Hp → Prop, (∀ H', Nx H' → ∃ m', m' < m ∧ W (i + 1) m' H') ∧ ∀ x H', (Itt K a).yld i H x H' → g x (wipe σ vs) H' fun σ2 H2 => wipe σ2 vs = wipe σ vs ∧ tt σ2 H2 fun b H3 =>
        if b = true then te σ2 H3 fun y H4 => ∃ acc, H4 D = some (.lst acc) ∧ acc.length < sizeLine ∧ Nx (upd H4 D (.lst (acc ++ [y]))) else Nx H3) := by
  refine lc_tup (K := K) (a := a) (xs := xs) (fun i H' => ∃ zs, J H' ∧ H' D = some (.lst zs) ∧ Rws R H' zs ((L.take i).filter f)) ⟨[], h0, upd_same, by rw [List.take_zero]; exact Rws.nil⟩ (fun i H' _ ⟨_, j, _⟩ => hl H' j) ?_ ?_
  · rintro i y H' hy ⟨zs, j, hz, hR⟩
    rw [hx, List.getElem?_map] at hy
    obtain ⟨x, hx', rfl⟩ := Option.map_eq_some_iff.mp hy
    have fn := filter_next (f := f) hx'
    have il := (List.getElem?_eq_some_iff.mp hx').1
    have zl : zs.length ≤ 1000 := by
      have := hR.len
      have h2 := List.length_filter_le f (L.take i)
      rw [List.length_take] at h2
      omega
    refine turn i x H' hx' j ⟨zs, hz⟩ _ _ (fun hf y H2 j2 tk e r => ?_) (fun hf H2 j2 tk e => ?_)
    · rw [hz] at e
      refine ⟨zs, e, small1000 (by omega), zs ++ [y], hJ H2 zs _ j2 e, upd_same, ?_⟩
      have tk2 : TK H2 (upd H2 D (.lst (zs ++ [y]))) := TK.upd (by rw [e]; trivial)
      rw [fn, if_pos hf]
      exact (hR.keep (mono (tk.trans tk2))).snoc (mono tk2 r)
    · rw [hz] at e
      refine ⟨zs, j2, e, ?_⟩
      rw [fn, if_neg (by rw [hf]; exact Bool.noConfusion)]
      exact hR.keep (mono tk)
  · rintro H' ⟨zs, j, hz, hR⟩
    rw [hx, List.length_map, List.take_length] at hR
    exact over H' zs j hz hR
theorem bu_list (J : Hp → Prop) (mono : ∀ {H H' : Hp} {v : V} {x : α}, TK H H' → R H v x → R H' v x) (hx : xs = L.map en) (hlen : L.length ≤ 1000) (h0 : J (upd H1 D (.lst [])))
    (hl : ∀ H', J H' → SqL K H' a xs) (hJ : ∀ (H' : Hp) (zs zs' : List V), J H' → H' D = some (.lst zs) → J (upd H' D (.lst zs')))
    (turn : ∀ (i : Nat) (x : α) (H' : Hp), L[i]? = some x → J H' → (∃ zs, H' D = some (.lst zs)) → ∀ (Yes : V → Hp → Prop) (No : Hp → Prop), (f x = true → ∀ (y : V) (H2 : Hp), J H2 → TK H' H2 → H2 D = H' D → R H2 y x → Yes y H2) → (f x = false → ∀ (H2 : Hp), J H2 → TK H' H2 → H2 D = H' D → No H2) → Turn g tt te vs σ (en x) H' Yes No)
    (over : ∀ (H' : Hp) (zs : List V), J H' → H' D = some (.lst zs) → Rws R H' zs (L.filter f) → Qd H') :
    ∃ W : Nat → Nat → Hp → Prop, (∃ m, W 0 m (upd H1 D (.lst []))) ∧ ∀ i m H, W i m H →
      ((Itl K a).stop i H ∧ Qd H) ∨ ((Itl K a).go i H ∧ ∃ Nx : Hp → Prop, (∀ H', Nx H' → ∃ m', m' < m ∧ W (i + 1) m' H') ∧ ∀ x H', (Itl K a).yld i H x H' → g x (wipe σ vs) H' fun σ2 H2 => wipe σ2 vs = wipe σ vs ∧ tt σ2 H2 fun b H3 =>
        if b = true then te σ2 H3 fun y H4 => ∃ acc, H4 D = some (.lst acc) ∧ acc.length < sizeLine ∧ Nx (upd H4 D (.lst (acc ++ [y]))) else Nx H3) := by
  refine lc_list (K := K) (a := a) (xs := xs) (fun i H' => ∃ zs, J H' ∧ H' D = some (.lst zs) ∧ Rws R H' zs ((L.take i).filter f)) ⟨[], h0, upd_same, by rw [List.take_zero]; exact Rws.nil⟩ (fun i H' _ ⟨_, j, _⟩ => hl H' j) ?_ ?_
  · rintro i y H' hy ⟨zs, j, hz, hR⟩
    rw [hx, List.getElem?_map] at hy
    obtain ⟨x, hx', rfl⟩ := Option.map_eq_some_iff.mp hy
    have fn := filter_next (f := f) hx'
    have il := (List.getElem?_eq_some_iff.mp hx').1
    have zl : zs.length ≤ 1000 := by
      have := hR.len
      have h2 := List.length_filter_le f (L.take i)
      rw [List.length_take] at h2
      omega
    refine turn i x H' hx' j ⟨zs, hz⟩ _ _ (fun hf y H2 j2 tk e r => ?_) (fun hf H2 j2 tk e => ?_)
    · rw [hz] at e
      refine ⟨zs, e, small1000 (by omega), zs ++ [y], hJ H2 zs _ j2 e, upd_same, ?_⟩
      have tk2 : TK H2 (upd H2 D (.lst (zs ++ [y]))) := TK.upd (by rw [e]; trivial)
      rw [fn, if_pos hf]
      exact (hR.keep (mono (tk.trans tk2))).snoc (mono tk2 r)
    · rw [hz] at e
      refine ⟨zs, j2, e, ?_⟩
      rw [fn, if_neg (by rw [hf]; exact Bool.noConfusion)]
      exact hR.keep (mono tk)
  · rintro H' ⟨zs, j, hz, hR⟩
    rw [hx, List.length_map, List.take_length] at hR
    exact over H' zs j hz hR
end
section
variable {g : TG} {tt : TT} {te : TE} {vs : List Nat} {σ : L2.St} {H1 : Hp} {D : Addr} {Qd : Hp → Prop}
theorem range_take {n i : Nat} (h : i < n) : (List.range n)[i]? = some i := by rw [List.getElem?_range h]
/-- over numbers -/
theorem bu_range {lo : Int} {n : Nat} (f : Nat → Bool) (R : Hp → V → Nat → Prop) (J : Hp → Prop) (mono : ∀ {H H' : Hp} {v : V} {x : Nat}, TK H H' → R H v x → R H' v x) (hlen : n ≤ 1000) (h0 : J (upd H1 D (.lst [])))
    (hJ : ∀ (H' : Hp) (zs zs' : List V), J H' → H' D = some (.lst zs) → J (upd H' D (.lst zs')))
    (turn : ∀ (i : Nat) (H' : Hp), i < n → J H' → (∃ zs, H' D = some (.lst zs)) → ∀ (Yes : V → Hp → Prop) (No : Hp → Prop), (f i = true → ∀ (y : V) (H2 : Hp), J H2 → TK H' H2 → H2 D = H' D → R H2 y i → Yes y H2) → (f i = false → ∀ (H2 : Hp), J H2 → TK H' H2 → H2 D = H' D → No H2) → Turn g tt te vs σ (.int (lo + (i : Nat))) H' Yes No)
    (over : ∀ (H' : Hp) (zs : List V), J H' → H' D = some (.lst zs) → Rws R H' zs ((List.range n).filter f) → Qd H') :
    ∃ W : Nat → Nat → Hp → Prop, (∃ m, W 0 m (upd H1 D (.lst []))) ∧ ∀ i m H, W i m H →
      ((Itr lo n).stop i H ∧ Qd H) ∨ ((Itr lo n).go i H ∧ ∃ Nx : Hp → Prop, (∀ H', Nx H' → ∃ m', m' < m ∧ W (i + 1) m' H') ∧ ∀ x H', (Itr lo n).yld i H x H' → g x (wipe σ vs) H' fun σ2 H2 => wipe σ2 vs = wipe σ vs ∧ tt σ2 H2 fun b H3 =>
        if b = true then te σ2 H3 fun y H4 => ∃ acc, H4 D = some (.lst acc) ∧ acc.length < sizeLine ∧ Nx (upd H4 D (.lst (acc ++ [y]))) else Nx H3) := by
  refine lc_range (lo := lo) (n := n) (fun i H' => ∃ zs, J H' ∧ H' D = some (.lst zs) ∧ Rws R H' zs (((List.range n).take i).filter f)) ⟨[], h0, upd_same, by rw [List.take_zero]; exact Rws.nil⟩ ?_ ?_
  · rintro i H' hi ⟨zs, j, hz, hR⟩
    have hx' := range_take hi
    have fn := filter_next (f := f) hx'
    have zl : zs.length ≤ 1000 := by
      have := hR.len
      have h2 := List.length_filter_le f ((List.range n).take i)
      rw [List.length_take] at h2
      omega
    refine turn i H' hi j ⟨zs, hz⟩ _ _ (fun hf y H2 j2 tk e r => ?_) (fun hf H2 j2 tk e => ?_)
    · rw [hz] at e
      refine ⟨zs, e, small1000 (by omega), zs ++ [y], hJ H2 zs _ j2 e, upd_same, ?_⟩
      have tk2 : TK H2 (upd H2 D (.lst (zs ++ [y]))) := TK.upd (by rw [e]; trivial)
      rw [fn, if_pos hf]
      exact (hR.keep (mono (tk.trans tk2))).snoc (mono tk2 r)
    · rw [hz] at e
      refine ⟨zs, j2, e, ?_⟩
      rw [fn, if_neg (by rw [hf]; exact Bool.noConfusion)]
      exact hR.keep (mono tk)
  · rintro H' ⟨zs, j, hz, hR⟩
    have e : (List.range n).take n = List.range n := List.take_of_length_le (by rw [List.length_range]; exact Nat.le_refl _)
    rw [e] at hR
    exact over H' zs j hz hR
end
/-! ### the heap as it was -/
section
variable {K : PySem.W.Frag} {a : Addr} {xs : List V} {g : TG} {tt : TT} {te : TE} {vs : List Nat} {σ : L2.St} {H1 : Hp} {D : Addr} {Qd : Hp → Prop}
variable {α : Type} (L : List α) (en : α → V) (f : α → Bool) (R : Hp → V → α → Prop)
/-- what stood stands, and the new list is a list -/
def JS (H1 : Hp) (D : Addr) (H' : Hp) : Prop := Same H1 H' ∧ ∃ zs, H' D = some (.lst zs)
theorem JS.start (hD : H1 D = none) : JS H1 D (upd H1 D (.lst [])) := ⟨Same.new hD _, [], upd_same⟩
theorem JS.put (hD : H1 D = none) (H' : Hp) (zs zs' : List V) (j : JS H1 D H') (_ : H' D = some (.lst zs)) : JS H1 D (upd H' D (.lst zs')) := ⟨own_same j.1 hD, zs', upd_same⟩
theorem JS.go {H' H2 : Hp} (j : JS H1 D H') (s : Same H' H2) : JS H1 D H2 ∧ H2 D = H' D := by
  obtain ⟨s1, zs, e⟩ := j
  exact ⟨⟨s1.trans s, zs, s _ _ e⟩, by rw [e]; exact s _ _ e⟩
theorem buS_tup (mono : ∀ {H H' : Hp} {v : V} {x : α}, TK H H' → R H v x → R H' v x) (hl : SqT K H1 a xs) (hx : xs = L.map en) (hlen : L.length ≤ 1000) (hD : H1 D = none)
    (turn : ∀ (i : Nat) (x : α) (H' : Hp), L[i]? = some x → Same H1 H' → ∀ (Yes : V → Hp → Prop) (No : Hp → Prop), (f x = true → ∀ (y : V) (H2 : Hp), Same H' H2 → R H2 y x → Yes y H2) → (f x = false → ∀ (H2 : Hp), Same H' H2 → No H2) → Turn g tt te vs σ (en x) H' Yes No)
    (over : ∀ (H' : Hp) (zs : List V), Same H1 H' → H' D = some (.lst zs) → Rws R H' zs (L.filter f) → Qd H') :
    ∃ W : Nat → Nat → Hp → Prop, (∃ m, W 0 m (upd H1 D (.lst []))) ∧ ∀ i m H, W i m H →
      ((Itt K a).stop i H ∧ Qd H) ∨ ((Itt K a).go i H ∧ ∃ Nx : Hp → Prop, (∀ H', Nx H' → ∃ m', m' < m ∧ W (i + 1) m' H') ∧ ∀ x H', (Itt K a).yld i H x H' → g x (wipe σ vs) H' fun σ2 H2 => wipe σ2 vs = wipe σ vs ∧ tt σ2 H2 fun b H3 =>
        if b = true then te σ2 H3 fun y H4 => ∃ acc, H4 D = some (.lst acc) ∧ acc.length < sizeLine ∧ Nx (upd H4 D (.lst (acc ++ [y]))) else Nx H3) :=
  bu_tup (K := K) (a := a) (xs := xs) L en f R (JS H1 D) mono hx hlen (JS.start hD) (fun H' j => SqT.same j.1 hl) (JS.put hD)
    (fun i x H' hx' j _ Yes No y n => turn i x H' hx' j.1 Yes No (fun hf v H2 s r => y hf v H2 (j.go s).1 (TK.of_same s) (j.go s).2 r) fun hf H2 s => n hf H2 (j.go s).1 (TK.of_same s) (j.go s).2)
    fun H' zs j hz hR => over H' zs j.1 hz hR
theorem buS_list (mono : ∀ {H H' : Hp} {v : V} {x : α}, TK H H' → R H v x → R H' v x) (hl : SqL K H1 a xs) (hx : xs = L.map en) (hlen : L.length ≤ 1000) (hD : H1 D = none)
    (turn : ∀ (i : Nat) (x : α) (H' : Hp), L[i]? = some x → Same H1 H' → ∀ (Yes : V → Hp → Prop) (No : Hp → Prop), (f x = true → ∀ (y : V) (H2 : Hp), Same H' H2 → R H2 y x → Yes y H2) → (f x = false → ∀ (H2 : Hp), Same H' H2 → No H2) → Turn g tt te vs σ (en x) H' Yes No)
    (over : ∀ (H' : Hp) (zs : List V), Same H1 H' → H' D = some (.lst zs) → Rws R H' zs (L.filter f) → Qd H') :
    ∃ W : Nat → Nat → Hp → Prop, (∃ m, W 0 m (upd H1 D (.lst []))) ∧ ∀ i m H, W i m H →
      ((Itl K a).stop i H ∧ Qd H) ∨ ((Itl K a).go i H ∧ ∃ Nx : Hp → Prop, (∀ H', Nx H' → ∃ m', m' < m ∧ W (i + 1) m' H') ∧ ∀ x H', (Itl K a).yld i H x H' → g x (wipe σ vs) H' fun σ2 H2 => wipe σ2 vs = wipe σ vs ∧ tt σ2 H2 fun b H3 =>
        if b = true then te σ2 H3 fun y H4 => ∃ acc, H4 D = some (.lst acc) ∧ acc.length < sizeLine ∧ Nx (upd H4 D (.lst (acc ++ [y]))) else Nx H3) :=
  bu_list (K := K) (a := a) (xs := xs) L en f R (JS H1 D) mono hx hlen (JS.start hD) (fun H' j => SqL.same j.1 hl) (JS.put hD)
    (fun i x H' hx' j _ Yes No y n => turn i x H' hx' j.1 Yes No (fun hf v H2 s r => y hf v H2 (j.go s).1 (TK.of_same s) (j.go s).2 r) fun hf H2 s => n hf H2 (j.go s).1 (TK.of_same s) (j.go s).2)
    fun H' zs j hz hR => over H' zs j.1 hz hR
theorem fiS_tup (el : α → V) (hl : SqT K H1 a xs) (hx : xs = L.map en) (hlen : L.length ≤ 1000) (hD : H1 D = none)
    (turn : ∀ (i : Nat) (x : α) (H' : Hp), L[i]? = some x → Same H1 H' → ∀ (Yes : V → Hp → Prop) (No : Hp → Prop), (f x = true → ∀ (H2 : Hp), Same H' H2 → Yes (el x) H2) → (f x = false → ∀ (H2 : Hp), Same H' H2 → No H2) → Turn g tt te vs σ (en x) H' Yes No)
    (over : ∀ (H' : Hp), Same H1 H' → H' D = some (.lst ((L.filter f).map el)) → Qd H') :
    ∃ W : Nat → Nat → Hp → Prop, (∃ m, W 0 m (upd H1 D (.lst []))) ∧ ∀ i m H, W i m H →
      ((Itt K a).stop i H ∧ Qd H) ∨ ((Itt K a).go i H ∧ ∃ Nx : Hp → Prop, (∀ H', Nx H' → ∃ m', m' < m ∧ W (i + 1) m' H') ∧ ∀ x H', (Itt K a).yld i H x H' → g x (wipe σ vs) H' fun σ2 H2 => wipe σ2 vs = wipe σ vs ∧ tt σ2 H2 fun b H3 =>
        if b = true then te σ2 H3 fun y H4 => ∃ acc, H4 D = some (.lst acc) ∧ acc.length < sizeLine ∧ Nx (upd H4 D (.lst (acc ++ [y]))) else Nx H3) :=
  buS_tup (K := K) (a := a) (xs := xs) L en f (fun _ v x => v = el x) (fun _ h => h) hl hx hlen hD
    (fun i x H' hx' s Yes No y n => turn i x H' hx' s Yes No (fun hf H2 s2 => y hf _ H2 s2 rfl) n)
    fun H' zs s hz hR => over H' s (by rw [← hR.el]; exact hz)
theorem fiS_list (el : α → V) (hl : SqL K H1 a xs) (hx : xs = L.map en) (hlen : L.length ≤ 1000) (hD : H1 D = none)
    (turn : ∀ (i : Nat) (x : α) (H' : Hp), L[i]? = some x → Same H1 H' → ∀ (Yes : V → Hp → Prop) (No : Hp → Prop), (f x = true → ∀ (H2 : Hp), Same H' H2 → Yes (el x) H2) → (f x = false → ∀ (H2 : Hp), Same H' H2 → No H2) → Turn g tt te vs σ (en x) H' Yes No)
    (over : ∀ (H' : Hp), Same H1 H' → H' D = some (.lst ((L.filter f).map el)) → Qd H') :
    ∃ W : Nat → Nat → Hp → Prop, (∃ m, W 0 m (upd H1 D (.lst []))) ∧ ∀ i m H, W i m H →
      ((Itl K a).stop i H ∧ Qd H) ∨ ((Itl K a).go i H ∧ ∃ Nx : Hp → Prop, (∀ H', Nx H' → ∃ m', m' < m ∧ W (i + 1) m' H') ∧ ∀ x H', (Itl K a).yld i H x H' → g x (wipe σ vs) H' fun σ2 H2 => wipe σ2 vs = wipe σ vs ∧ tt σ2 H2 fun b H3 =>
        if b = true then te σ2 H3 fun y H4 => ∃ acc, H4 D = some (.lst acc) ∧ acc.length < sizeLine ∧ Nx (upd H4 D (.lst (acc ++ [y]))) else Nx H3) :=
  buS_list (K := K) (a := a) (xs := xs) L en f (fun _ v x => v = el x) (fun _ h => h) hl hx hlen hD
    (fun i x H' hx' s Yes No y n => turn i x H' hx' s Yes No (fun hf H2 s2 => y hf _ H2 s2 rfl) n)
    fun H' zs s hz hR => over H' s (by rw [← hR.el]; exact hz)
theorem buS_range {lo : Int} {n : Nat} (f : Nat → Bool) (R : Hp → V → Nat → Prop) (mono : ∀ {H H' : Hp} {v : V} {x : Nat}, TK H H' → R H v x → R H' v x) (hlen : n ≤ 1000) (hD : H1 D = none)
    (turn : ∀ (i : Nat) (H' : Hp), i < n → Same H1 H' → ∀ (Yes : V → Hp → Prop) (No : Hp → Prop), (f i = true → ∀ (y : V) (H2 : Hp), Same H' H2 → R H2 y i → Yes y H2) → (f i = false → ∀ (H2 : Hp), Same H' H2 → No H2) → Turn g tt te vs σ (.int (lo + (i : Nat))) H' Yes No)
    (over : ∀ (H' : Hp) (zs : List V), Same H1 H' → H' D = some (.lst zs) → Rws R H' zs ((List.range n).filter f) → Qd H') :
    ∃ W : Nat → Nat → Hp → Prop, (∃ m, W 0 m (upd H1 D (.lst []))) ∧ ∀ i m H, W i m H →
      ((Itr lo n).stop i H ∧ Qd H) ∨ ((Itr lo n).go i H ∧ ∃ Nx : Hp → Prop, (∀ H', Nx H' → ∃ m', m' < m ∧ W (i + 1) m' H') ∧ ∀ x H', (Itr lo n).yld i H x H' → g x (wipe σ vs) H' fun σ2 H2 => wipe σ2 vs = wipe σ vs ∧ tt σ2 H2 fun b H3 =>
        if b = true then te σ2 H3 fun y H4 => ∃ acc, H4 D = some (.lst acc) ∧ acc.length < sizeLine ∧ Nx (upd H4 D (.lst (acc ++ [y]))) else Nx H3) :=
  bu_range f R (JS H1 D) mono hlen (JS.start hD) (JS.put hD)
    (fun i H' hx' j _ Yes No y n => turn i H' hx' j.1 Yes No (fun hf v H2 s r => y hf v H2 (j.go s).1 (TK.of_same s) (j.go s).2 r) fun hf H2 s => n hf H2 (j.go s).1 (TK.of_same s) (j.go s).2)
    fun H' zs j hz hR => over H' zs j.1 hz hR
theorem fiS_range {lo : Int} {n : Nat} (f : Nat → Bool) (el : Nat → V) (hlen : n ≤ 1000) (hD : H1 D = none)
    (turn : ∀ (i : Nat) (H' : Hp), i < n → Same H1 H' → ∀ (Yes : V → Hp → Prop) (No : Hp → Prop), (f i = true → ∀ (H2 : Hp), Same H' H2 → Yes (el i) H2) → (f i = false → ∀ (H2 : Hp), Same H' H2 → No H2) → Turn g tt te vs σ (.int (lo + (i : Nat))) H' Yes No)
    (over : ∀ (H' : Hp), Same H1 H' → H' D = some (.lst (((List.range n).filter f).map el)) → Qd H') :
    ∃ W : Nat → Nat → Hp → Prop, (∃ m, W 0 m (upd H1 D (.lst []))) ∧ ∀ i m H, W i m H →
      ((Itr lo n).stop i H ∧ Qd H) ∨ ((Itr lo n).go i H ∧ ∃ Nx : Hp → Prop, (∀ H', Nx H' → ∃ m', m' < m ∧ W (i + 1) m' H') ∧ ∀ x H', (Itr lo n).yld i H x H' → g x (wipe σ vs) H' fun σ2 H2 => wipe σ2 vs = wipe σ vs ∧ tt σ2 H2 fun b H3 =>
        if b = true then te σ2 H3 fun y H4 => ∃ acc, H4 D = some (.lst acc) ∧ acc.length < sizeLine ∧ Nx (upd H4 D (.lst (acc ++ [y]))) else Nx H3) :=
  buS_range f (fun _ v x => v = el x) (fun _ h => h) hlen hD
    (fun i H' hx' s Yes No y n => turn i H' hx' s Yes No (fun hf H2 s2 => y hf _ H2 s2 rfl) n)
    fun H' zs s hz hR => over H' s (by rw [← hR.el]; exact hz)
end
theorem filter_all {α : Type} (L : List α) : L.filter (fun _ => true) = L := List.filter_eq_self.mpr fun _ _ => rfl
/-- a test that is known -/
theorem if_known {c : Bool} {A B : Prop} (yes : c = true → A) (no : c = false → B) : if c = true then A else B := by
  cases c with
  | true => exact if_true_of rfl (yes rfl)
  | false => exact if_false_of rfl (no rfl)
end Td
/-! A dict whose only key is a tuple, written out. -/
namespace Td
open PySem PySem.Spec PyProof.Rows L2
def tDispT (tk tv : TE) : TE := fun σ H Q => ∀ p, H p = none → tk σ (upd H p (.dT [])) fun y H1 => tv σ H1 fun v H2 => H2 p = some (.dT []) ∧ ∃ (b : Addr) (k : List L2.Key), y = .ref b ∧ H2 b = some (.tup (k.map kV)) ∧ Q (.ref p) (upd H2 p (.dT [(k, v)]))
theorem pe_dispT {X : Cx} {pos : Pos} {k v : Expr} {tk tv : TE} (hu : X.A.units + 1 < cLine) (hk : PE X k tk) (hv : PE X v tv) : PE X (.Dict [some k] [v] pos) (tDispT tk tv) := by
  refine ⟨fun pins s σ H Q I q => ?_⟩
  have hn := I.hok.fresh (Nat.le_refl s.heap.objs.size)
  have I1 := I.laid (a := s.heap.objs.size) (o := .dT []) (h' := s.heap.push { cls := .type "dict", data := .dict #[] }) (t' := s.toks) (fun _ _ q => Heap.get?_push_of_some _ q) (Nat.le_refl _) (dt_empty s.heap I.big)
  rw [arm_eval_Dict, zip_pairTrees [some k] [v] X.env pos rfl rfl, dictDisplay_pairs _ (fun z => by cases z) (by show 1 < 17; decide)]
  refine wpAny_bind (wpAny_standAt (wpAny_bind ?_))
  refine wpAny_subDictH (knd := tupleKind (mixKind X.prog X.w)) (by show X.A.units < cLine; omega) (by show 1 ≤ 15; decide) ?_
  refine pairTrees_cons_walk (thn (hk.run pins _ σ _ _ I1 (q _ hn)) fun u s1 ⟨y, H1, I2, ry, q1⟩ => thn (hv.run pins s1 σ H1 _ I2 q1) fun w2 s2 ⟨z, H2, I3, rz, q2⟩ => pairTrees_nil_walk ?_)
  obtain ⟨e, b, ks, rfl, eb, q3⟩ := q2
  cases (show u = Value.ref b from ry)
  obtain ⟨_, hd, xs, rel, dd⟩ := dt_of I3.hok e
  cases rel
  refine ⟨[(ks, b, w2)], ⟨rfl, rfl, key_of I3.hok eb, trivial⟩, dd, fun h' tk' dd' hs => wpAny_pure ⟨.ref s.heap.objs.size, _, ?_, rfl, q3⟩⟩
  obtain ⟨o, es, ep, hq, h2, h3, h4, _, h5⟩ := dd'
  refine d_write I3 (by rw [e]; exact True.intro) hs ⟨o, hq⟩ ⟨by rw [sizeLine_eq]; show 1 ≤ _; omega, hd, _, .cons ⟨rfl, ?_, rz⟩ .nil, o, es, ep, hq, h2, h3, h4, h5⟩
  rw [upd_ne (ne_of eb e (fun z => nomatch z))]
  exact eb
end Td
namespace Td
open PySem PySem.Spec PyProof.Rows L2
theorem walk_range {lo : Int} {n : Nat} {B : (Hp → Prop) → V → Hp → Prop} {H0 : Hp} {End : Hp → Prop} (J : Nat → Hp → Prop) (start : J 0 H0) (turn : ∀ i H, i < n → J i H → B (J (i + 1)) (.int (lo + i)) H) (over : ∀ H, J n H → End H) :
    ∃ W : Nat → Nat → Hp → Prop, (∃ m, W 0 m H0) ∧ ∀ i m H, W i m H → ((Itr lo n).stop i H ∧ End H) ∨ ((Itr lo n).go i H ∧ ∃ Nx : Hp → Prop, (∀ H', Nx H' → ∃ m', m' < m ∧ W (i + 1) m' H') ∧ ∀ x H', (Itr lo n).yld i H x H' → B Nx x H') := by
  refine ⟨fun i m H => m = n - i ∧ i ≤ n ∧ J i H, ⟨n, by simp, Nat.zero_le _, start⟩, ?_⟩
  rintro i m H ⟨rfl, hi, p⟩
  by_cases hlt : i < n
  · refine .inr ⟨hlt, J (i + 1), fun H' p' => ⟨n - (i + 1), by omega, rfl, hlt, p'⟩, fun x H' y => ?_⟩
    obtain ⟨e, y⟩ := y
    subst e y
    exact turn i _ hlt p
  · have e : i = n := by omega
    subst e
    exact .inl ⟨Nat.le_refl _, over H p⟩
/-- rows of a kind, each a tuple of its own -/
def RowsG {α : Type} (f : α → V) (H : Hp) (xs : List V) (L : List (List α)) : Prop := xs.length = L.length ∧ ∀ (i : Nat) (r : List α), L[i]? = some r → ∃ b : Addr, xs[i]? = some (V.ref b) ∧ H b = some (.tup (r.map f))
section
variable {α : Type} {f : α → V}
theorem RowsG.nil {H : Hp} : RowsG f H [] [] := ⟨rfl, fun i r h => by simp at h⟩
theorem RowsG.append {H : Hp} {xs ys : List V} {L M : List (List α)} (h : RowsG f H xs L) (g : RowsG f H ys M) : RowsG f H (xs ++ ys) (L ++ M) := by
  refine ⟨by rw [List.length_append, List.length_append, h.1, g.1], fun i r e => ?_⟩
  by_cases hi : i < L.length
  · rw [List.getElem?_append_left hi] at e
    obtain ⟨b', e1, e2⟩ := h.2 i r e
    exact ⟨b', by rw [List.getElem?_append_left (by rw [h.1]; exact hi)]; exact e1, e2⟩
  · rw [List.getElem?_append_right (by omega)] at e
    obtain ⟨b', e1, e2⟩ := g.2 _ r e
    exact ⟨b', by rw [List.getElem?_append_right (by rw [h.1]; omega), h.1]; exact e1, e2⟩
theorem RowsG.one {H : Hp} {b : Addr} {r : List α} (hb : H b = some (.tup (r.map f))) : RowsG f H [.ref b] [r] := ⟨rfl, fun i r' e => by
  cases i with
  | zero => cases e; exact ⟨b, rfl, hb⟩
  | succ k => simp at e⟩
theorem RowsG.get {H : Hp} {xs : List V} {L : List (List α)} {i : Nat} {x : V} (h : RowsG f H xs L) (e : xs[i]? = some x) : ∃ r b, L[i]? = some r ∧ x = .ref b ∧ H b = some (.tup (r.map f)) := by
  have hi : i < L.length := by rw [← h.1]; exact (List.getElem?_eq_some_iff.mp e).1
  obtain ⟨b, e1, e2⟩ := h.2 i L[i] (List.getElem?_eq_getElem hi)
  rw [e1] at e
  exact ⟨L[i], b, List.getElem?_eq_getElem hi, (Option.some.inj e).symm, e2⟩
end
end Td
namespace Td
open PySem PySem.Spec PyProof.Rows L2
section
theorem ext_tup (l b : Addr) (items items2 : Array Value) (n : Nat) (hs0 : ¬(!items.isEmpty && Builtin.List.listTooLong (items.size + items2.size)) = true) (hs1 : items.size ≤ sizeLine) (hs3 : items2.size ≤ sizeLine) (hs2 : items.size + items2.size ≤ sizeLine + 1) :
    Meets (Builtin.«list.extend» ⟨[.ref l, .ref b], []⟩) (fun _ R s => s.heap.get? l = some { cls := .type "list", dict := none, data := .seq items n, slots := #[] } ∧ s.heap.IsTuple b items2 ∧ R (.ok (.ret Value.none)) { s with heap := s.heap.update l (Obj.mapSeq fun x => x ++ items2) }) :=
  .of_wp fun prog w A R s h => by
    obtain ⟨hl, ⟨o, ho, hc, n2, hd⟩, hR⟩ := h
    show wpAny _ _ (Builtin.List.listExtendWith (.ref l) (.ref b) .none) _ _ s
    unfold Builtin.List.listExtendWith
    refine wpAny_bind (wpAny_typeOf ⟨o, ho, hc⟩ ?_)
    have h1 : (Builtin.List.listSameRef (.ref l) (.ref b) || Value.type "tuple" == Value.type "list" || Value.type "tuple" == Value.type "tuple") = true := by simp
    simp only [h1, if_true]
    refine wpAny_bind ?_
    unfold Builtin.List.listItems
    refine wpAny_bind (wpAny_seqItems ho hd ?_)
    try refine wpAny_pure ?_
    refine wpAny_bind ?_
    refine wpAny_bind (wpAny_seqItems hl rfl ?_)
    try refine wpAny_pure ?_
    rw [if_neg hs0]
    have hz' : (items ++ items2).size ≤ sizeLine + 1 := by rw [Array.size_append]; exact hs2
    refine wpAny_bind (wpAny_updateSeq hl rfl ?_ (hz := hs1) (_hz' := hz'))
    exact wpAny_pure ⟨_, rfl, hR⟩
variable {X : Cx}
/-- l.extend(t), t a tuple -/
def rExtendT (K : PySem.W.Frag) : V → List V → Hp → VK → Prop := fun x vs H Q => ∃ l b xs zs, x = .ref l ∧ vs = [.ref b] ∧ H l = some (.lst xs) ∧ SqT K H b zs ∧ xs.length + zs.length ≤ sizeLine ∧ Q .non (upd H l (.lst (xs ++ zs)))
theorem mt_extendT : MtM X "list.extend" (rExtendT X.K) := by
  intro pins s σ H x vs v us Q I rx rv h
  obtain ⟨l, b, xs, zs, rfl, rfl, hH, hB, hz, q⟩ := h
  cases rx
  obtain ⟨u, rfl, ru⟩ := rv.one
  cases ru
  obtain ⟨z, its, n, r, hl, e⟩ := I.lstM hH
  obtain ⟨its2, r2, e2, hz2⟩ := I.tuple hB
  have hl2 := r2.length
  have hsz : its.toArray.size + its2.toArray.size ≤ sizeLine := by rw [List.size_toArray, List.size_toArray]; omega
  have hlong : ¬ (!its.toArray.isEmpty && Builtin.List.listTooLong (its.toArray.size + its2.toArray.size)) = true := by
    have e3 : Builtin.List.listTooLong (its.toArray.size + its2.toArray.size) = false := by
      unfold Builtin.List.listTooLong
      exact decide_eq_false (by have := sizeLine_eq; omega)
    rw [e3, Bool.and_false]
    exact Bool.false_ne_true
  refine call_meets F.slot_list_extend ⟨_, e, rfl⟩ F.entry_list_extend (F.args_list_extend_2 _ _)
    (ext_tup l b its.toArray its2.toArray n hlong (by rw [List.size_toArray]; omega) (by rw [List.size_toArray]; omega) (by omega)) ⟨e, e2, ?_⟩
  refine ⟨.non, _, I.lset (its' := its ++ its2) hH e (by simp) (r.append r2) ?_, rfl, q⟩
  rw [List.length_append]
  omega
end
end Td
namespace Td
open PySem PySem.Spec PyProof.Rows L2
section
variable {X : Cx}
theorem sw_trueD {kx vx : Expr} {gs : List Comprehension} {scope : Scope} {pos py : Pos} {y : Str} {l : Nat} {env : PySem.Env} (hk : env.scope.kind = .function) (hy : env.scope.names.lookup y = some .local) (hl : (py.line == pos.line) = true)
    (ha : (scope.names.any fun (n, k) => n == y && (k == .local || k == .cell)) = false) : swapsWith (.DictComp kx vx gs scope pos) (some (.Name y py)) l env = pure true := by
  have ky : env.kindOf y = some .local := hy
  have hb : env.blockKind = .function := by unfold Env.blockKind; rw [hk]; rfl
  unfold swapsWith
  simp only [hb, ky, ha, Expr.pos, hl]
  rfl
/-- y = {k: v for ..}, y a plain local name -/
theorem ps_setDc {i : Nat} {y : Str} {py : Pos} {kx vx tg iter : Expr} {ifs : List Expr} {scope : Scope} {own : List (Str × Nat)} {pos spos : Pos} {wi : TI} {g : TG} {tt : TT} {tk tv : TE} (hc : X.calm = true) (hN : X.N.Nodup) (hy : X.N[i]? = some y) (hyl : X.env.scope.names.lookup y = some .local)
    (hsw : swapsWith (.DictComp kx vx [⟨tg, iter, ifs, 0⟩] scope pos) (some (.Name y py)) spos.line X.env = pure true) (hi : PI X tg iter wi) (ok : BlkOk X.N X.env.scope scope own)
    (hg : ∀ (s : Shared) (H : Hp) (C : Addr) (cl : List (Str × Addr)) (fp : List Addr), PG (X.blk s H scope (compEnvC scope cl C X.env) fp) tg g) (ht : ∀ (s : Shared) (H : Hp) (C : Addr) (cl : List (Str × Addr)) (fp : List Addr), PTs (X.blk s H scope (compEnvC scope cl C X.env) fp) ifs tt)
    (hk : ∀ (s : Shared) (H : Hp) (C : Addr) (cl : List (Str × Addr)) (fp : List Addr), PE (X.blk s H scope (compEnvC scope cl C X.env) fp) kx tk)
    (he : ∀ (s : Shared) (H : Hp) (C : Addr) (cl : List (Str × Addr)) (fp : List Addr), PE (X.blk s H scope (compEnvC scope cl C X.env) fp) vx tv) (hs : ∀ x, foldedSetIterable iter X.env x = pure x := by intro _; rfl) :
    PS X (.Assign [.Name y py] (.DictComp kx vx [⟨tg, iter, ifs, 0⟩] scope pos) spos) (tAsg (tDc wi g tt tk tv (own.map (·.2))) (gName i)) := by
  refine ⟨fun pins s σ H D I h => ?_⟩
  rw [exec_Assign_Name_used _ _ _ _ hsw]
  refine wpAny_bind (wpAny_standAt (wpAny_bind ?_))
  show wpAny _ X.A (do let _ ← comprehension (.DictComp kx vx [⟨tg, iter, ifs, 0⟩] scope pos) scope X.env (firstIterPos [⟨tg, iter, ifs, 0⟩] pos) newDict false (eval iter X.env) (some (assign (.Name y py) X.env))) _ _ s
  have h : tDc wi g tt tk tv (own.map (·.2)) σ H (fun x H1 => gName i x σ H1 D.nx) := h
  refine wpAny_bind (thn (dc_core (Qf := fun _ s' => SP X pins D .next s') hc hN I hi ok hg ht hk he hs h fun L C s' m H' I' q hn f => ?_) fun _ s' hq => wpAny_pure (wpAny_pure hq))
  show wpAny _ _ (assign (.Name y py) X.env (.ref L)) _ _ _
  refine wpAny_assign_Name (store_ok2 (v := V.ref L) I' hN hy (.inl hyl) rfl (fun s2 I2 ⟨a, sb, ha⟩ => ?_) (.inr hyl))
  obtain ⟨f0, f1, f2, f3, f4, f5⟩ := f
  have haC : C ≠ a := by
    rcases ha with z | z
    · rw [z]; exact f1
    · exact fun e => f4 y a z e.symm
  refine ⟨m, hn.sameBut sb haC, fun h3 sb3 => ?_⟩
  exact ⟨_, H', I2.turned (t' := s2.toks) (fun b o hb e => (sb3.2 b hb).trans e) f0 f1 f3 f4 f5, q⟩
end
end Td
namespace Td
open PySem PySem.Spec PyProof.Rows L2
theorem walk_kT {d : Addr} {od : Obj} {kvs : List (List L2.Key × V)} {B : (Hp → Prop) → V → Hp → Prop} {H0 : Hp} {End : Hp → Prop} (J : Nat → Hp → Prop) (start : J 0 H0) (there : ∀ i H, i ≤ kvs.length → J i H → H d = some (.frz od (.dT kvs)))
    (turn : ∀ i k v q H, kvs[i]? = some (k, v) → J i H → H q = some (.tup (k.map kV)) → B (J (i + 1)) (.ref q) H) (over : ∀ H, J kvs.length H → End H) :
    ∃ W : Nat → Nat → Hp → Prop, (∃ m, W 0 m H0) ∧ ∀ i m H, W i m H → ((Itkt d od kvs).stop i H ∧ End H) ∨ ((Itkt d od kvs).go i H ∧ ∃ Nx : Hp → Prop, (∀ H', Nx H' → ∃ m', m' < m ∧ W (i + 1) m' H') ∧ ∀ x H', (Itkt d od kvs).yld i H x H' → B Nx x H') := by
  refine ⟨fun i m H => i ≤ kvs.length ∧ m + i = kvs.length ∧ J i H, ⟨kvs.length, Nat.zero_le _, rfl, start⟩, fun i m H ⟨le, em, j⟩ => ?_⟩
  have here := there i H le j
  rcases Nat.lt_or_eq_of_le le with lt | eq
  · refine .inr ⟨⟨here, lt⟩, J (i + 1), fun H' j' => ⟨m - 1, by omega, by omega, by omega, j'⟩, fun x H' y => ?_⟩
    obtain ⟨e1, k, v, q, e2, e3, e4⟩ := y
    cases e1
    subst e3
    exact turn i k v q H e2 j e4
  · refine .inl ⟨⟨here, by omega⟩, over H ?_⟩
    rw [← eq]; exact j
end Td
namespace Td
open PySem PySem.Spec PyProof.Rows L2
theorem for_kT {d : Addr} {od : Obj} {kvs : List (List L2.Key × V)} {g : TG} {tb : TS} {D : Ends} {σ : L2.St} {H : Hp} (Pv : Nat → L2.St → Hp → Prop) (h0 : Pv 0 σ H) (there : ∀ i σ H, i ≤ kvs.length → Pv i σ H → H d = some (.frz od (.dT kvs)))
    (hs : ∀ i k v b σ H, kvs[i]? = some (k, v) → Pv i σ H → H b = some (.tup (k.map kV)) → g (.ref b) σ H fun σ2 H2 => tb { D with nx := Pv (i + 1), ct := Pv (i + 1), bk := D.nx } σ2 H2) (hd : ∀ σ H, Pv kvs.length σ H → D.nx σ H) :
    ∃ W : Nat → Nat → L2.St → Hp → Prop, (∃ m, W 0 m σ H) ∧ ∀ i m σ H, W i m σ H →
      ((Itkt d od kvs).stop i H ∧ D.nx σ H) ∨ ((Itkt d od kvs).go i H ∧ ∃ N : L2.St → Hp → Prop, (∀ σ' H', N σ' H' → ∃ m', m' < m ∧ W (i + 1) m' σ' H') ∧ ∀ x H', (Itkt d od kvs).yld i H x H' → g x σ H' fun σ2 H2 => tb { D with nx := N, ct := N, bk := D.nx } σ2 H2) := by
  refine ⟨fun i m σ H => m + i = kvs.length ∧ i ≤ kvs.length ∧ Pv i σ H, ⟨kvs.length, rfl, Nat.zero_le _, h0⟩, ?_⟩
  rintro i m σ H ⟨em, hi, p⟩
  have here := there i σ H hi p
  rcases Nat.lt_or_eq_of_le hi with lt | eq
  · refine .inr ⟨⟨here, lt⟩, Pv (i + 1), fun σ' H' p' => ⟨m - 1, by omega, by omega, by omega, p'⟩, fun x H' y => ?_⟩
    obtain ⟨e1, k, v, q, e2, e3, e4⟩ := y
    cases e1
    subst e3
    exact hs i k v q σ H e2 p e4
  · subst eq
    exact .inl ⟨⟨here, Nat.le_refl _⟩, hd σ H p⟩
end Td
/-! Behind o.split(text) a token is out; a list of texts with a replaced one, by an index. -/
namespace Td
open PySem PySem.Spec PyProof.Rows L2
section
variable {X : Cx} {o e a b : Expr} {to te ta tb : TE} {rest : List Stmt} {u : TS}
theorem pe1_m1 {id : String} {name y : Str} {j : Nat} {c apos pos : Pos} {r : V → List V → Hp → VK → Prop} (slot : Slot "str" name id) (ty : typeOf (.builtin id) = pure (.type "method_descriptor")) (rule : MtR X id r) (ho : PE X o to)
    (hs : starEach [.Constant (.str y) j c] X.env = [(false, eval (.Constant (.str y) j c) X.env)] := by rfl) (hbase : attributeBase o name X.env (eval o X.env) = eval o X.env := by rfl) (hline : (apos.endLine == pos.line) = true := by rfl) :
    ∀ (pins : List (Addr × Obj)) (s : Shared) (σ : L2.St) (H : Hp) (Q : VK), Inv X pins σ H s → tM1 r to (tC (.str y)) σ H Q → wpAny (model X.prog X.w) X.A (eval (.Call (.Attribute o name apos) [.Constant (.str y) j c] [] pos) X.env) (fun v s1 => 1 ≤ s1.toks ∧ EP X pins σ Q v s1) X.xe s := by
  intro pins s σ H Q I h
  refine PySem.Call_method1 hbase hs hline (thn (ho.run pins s σ H _ I h) fun v s1 ⟨x, H1, I1, r1, q1⟩ => ?_)
  obtain ⟨⟨a, rfl⟩, q1⟩ := q1
  obtain ⟨t, rfl⟩ := _root_.id r1
  refine ⟨"str", _, F.plainAttrs_str, slot, ty, typeIs_str _ _ _, (fun _ e => nomatch e), Calls.callWith_builtin rfl (Calls.evalArgs_plain (Calls.spliced_cons (Calls.Constant_str (Calls.spliced_nil ?_))))⟩
  refine wpAny_mono (PySem.wpAny_toks (rule pins { s1 with toks := s1.toks + 1 } σ H1 _ [.str y] _ [.str y s1.toks] Q (I1.tok _) r1 (.cons ⟨s1.toks, rfl⟩ .nil) q1)) (fun v s2 q => ⟨?_, q.2⟩) fun _ _ z => z.2
  have : s1.toks + 1 ≤ s2.toks := q.1
  omega
theorem pss_setT {i : Nat} {x : Str} {pos' pos : Pos} (hN : X.N.Nodup) (hi : X.N[i]? = some x) (hx : Loc X.env.scope x)
    (he : ∀ (pins : List (Addr × Obj)) (s : Shared) (σ : L2.St) (H : Hp) (Q : VK), Inv X pins σ H s → te σ H Q → wpAny (model X.prog X.w) X.A (eval e X.env) (fun v s1 => 1 ≤ s1.toks ∧ EP X pins σ Q v s1) X.xe s) (h2 : PSsT X rest u)
    (hs : swapsWith e (some (.Name x pos')) pos.line X.env = pure false := by rfl) (hf : X.fn x = true ∨ X.env.scope.names.lookup x = some .local := by first | exact .inl rfl | exact .inr rfl | assumption) :
    PSs X (.Assign [.Name x pos'] e pos :: rest) (tSeq (tAsg te (gName i)) u) := by
  refine ⟨fun pins s σ H D I h => ?_⟩
  refine wpAny_execs_cons (wpAny_Assign_Name (thn (he pins s σ H _ I h) fun v s1 ⟨hk, y, H1, I1, r1, q1⟩ => ?_) hs)
  refine wpAny_mono (PySem.wpAny_toks (store_ok (v := y) (u := v) (Q := fun _ s2 => Inv X pins (σ.set i (some y)) H1 s2) I1 hN hi hx r1 (fun _ I2 => I2) hf)) (fun _ s2 q => ?_) fun _ _ z => z.2
  exact h2 pins s2 _ H1 D (Nat.le_trans hk q.1) q.2 q1
theorem pet_ix {r : R2} {pos : Pos} (hr : IxR X r) (ha : PET X a ta) (hb : PE X b tb) (hs : PlainIx b) : PET X (.Subscript a b pos) (tOp r ta tb) := by
  intro pins s σ H Q h0 I h
  exact Subscript_ (thn (ha pins s σ H _ h0 I h) fun v s1 ⟨x, H1, I1, r1, q1⟩ => thn (hb.run pins s1 σ H1 _ I1 q1) fun u s2 ⟨y, H2, I2, r2, q2⟩ => hr a b pins s2 σ H2 x y v u Q I2 r1 r2 q2 (hs _ _))
end
end Td
/-! enumerate of a list. -/
namespace Td
open PySem PySem.Spec PyProof.Rows L2
theorem for_enumL {K : PySem.W.Frag} {l : Addr} {zs : List V} {g : TG} {tb : TS} {D : Ends} {τ : L2.St} {G : Hp} (J : Nat → L2.St → Hp → Prop) (start : J 0 τ G) (there : ∀ i τ G, i ≤ zs.length → J i τ G → SqL K G l zs)
    (turn : ∀ (i : Nat) (z : V) (τ : L2.St) (G : Hp) (t : Addr), zs[i]? = some z → J i τ G → G t = none → g (.ref t) τ (upd G t (.tup [.int (i : Nat), z])) fun τ2 G2 => tb { D with nx := J (i + 1), ct := J (i + 1), bk := D.nx } τ2 G2)
    (over : ∀ τ G, J zs.length τ G → D.nx τ G) :
    ∃ W : Nat → Nat → L2.St → Hp → Prop, (∃ m, W 0 m τ G) ∧ ∀ i m τ G, W i m τ G →
      ((Ite K l).stop i G ∧ D.nx τ G) ∨ ((Ite K l).go i G ∧ ∃ N : L2.St → Hp → Prop, (∀ τ' G', N τ' G' → ∃ m', m' < m ∧ W (i + 1) m' τ' G') ∧
        ∀ x G', (Ite K l).yld i G x G' → g x τ G' fun τ2 G2 => tb { D with nx := N, ct := N, bk := D.nx } τ2 G2) := by
  refine ⟨fun i m τ G => m + i = zs.length ∧ J i τ G, ⟨zs.length, rfl, start⟩, fun i m τ G ⟨em, j⟩ => ?_⟩
  have here := there i τ G (by omega) j
  rcases Nat.lt_or_ge i zs.length with lt | ge
  · refine .inr ⟨⟨zs, zs[i], here, List.getElem?_eq_getElem lt⟩, J (i + 1), fun τ' G' j' => ⟨m - 1, by omega, by omega, j'⟩, ?_⟩
    rintro x G' ⟨t, z, rfl, ft, rfl, at_⟩
    exact turn i z τ G t (at_ zs here) j ft
  · have e : i = zs.length := by omega
    rw [e] at j
    exact .inl ⟨⟨zs, here, ge⟩, over τ G j⟩
end Td
/-! == of two dicts that hold data. -/
namespace Td
open PySem PySem.Spec PyProof.Rows L2
/-- one dict's values against the other's -/
def hitsV (K : PySem.W.Frag) (H : Hp) (ls : List (Key × V)) : List (Key × V) → Bool → Prop
  | [], r => r = true
  | p :: ps, r => ∃ (u : V) (d e : PyData) (r' : Bool), valV ls p.1 = some u ∧ Dp K H p.2 d ∧ Dp K H u e ∧ d.canLay0 = true ∧ e.canLay0 = true ∧ d.depth ≤ 60 ∧ hitsV K H ls ps r' ∧ r = (PyData.eqv d e && r')
def rEqK (K : PySem.W.Frag) : R2 := fun x y H Q => ∃ (a b : Addr) (ks ls : List (Key × V)) (r : Bool), x = .ref a ∧ y = .ref b ∧ H a = some (.dK ks) ∧ H b = some (.dK ls) ∧ ks.length = ls.length ∧ hitsV K H ls ks r ∧ Q (.bl r) H
section
variable {X : Cx} {pins : List (Addr × Obj)} {σ : L2.St} {H : Hp} {s : Shared}
theorem hits_data (I : Inv X pins σ H s) {A : Around} (hu : A.units + 60 < cLine) {ls : List (Key × V)} {vb : List (Key × Value)} (rb : KV ls vb) : ∀ {ks : List (Key × V)} {va : List (Key × Value)} {r : Bool}, KV ks va → hitsV X.K H ls ks r → PySem.W.KeqHitsP X.prog X.w A s vb va r
  | [], _, r, .nil, h => by
    have h : r = true := h
    subst h
    exact .nil
  | p :: ps, _, r, .cons (b := q) h t, hp => by
    obtain ⟨u, d, e, r', e1, d1, d2, c1, c2, l, hr, rfl⟩ := hp
    obtain ⟨h1, h2⟩ := h
    have rr : RelO (some u) (valueAt vb p.1) := by rw [← e1]; exact rb.val p.1
    obtain ⟨y, hy, ry⟩ := rr.some_of
    obtain ⟨key, v⟩ := q
    have h1' : p.1 = key := h1
    rw [h1'] at hy
    obtain ⟨as, g1⟩ := Dp.reads I d p.2 v d1 h2
    obtain ⟨bs, g2⟩ := Dp.reads I e u y d2 ry
    exact .hit hy (SeqAt.EqAt.eqP (SeqAt.eqAt_reads d e A s v y as bs g1 g2 c1 c2 (by have := Nat.min_le_left d.depth e.depth; omega))) (hits_data I hu rb t hr)
theorem op_eqK (hu : X.A.units + 64 < cLine) : OpR X (compareOp .Eq) (rEqK X.K) := by
  intro pins s σ H x y v u Q I rx ry h
  obtain ⟨a, b, ks, ls, r, rfl, rfl, ea, eb, hl, hh, q⟩ := h
  obtain rfl : v = .ref a := rx
  obtain rfl : u = .ref b := ry
  obtain ⟨_, ya, va, ra, da⟩ := dk_of I.hok ea
  obtain ⟨_, yb, vb, rb, db⟩ := dk_of I.hok eb
  refine PySem.W.rcP_dicts (knd := mixKind X.prog X.w) (r := r) ya yb da db (by omega) (fun _ => hits_data I (A := X.A.in1) (by show X.A.units + 1 + 60 < cLine; omega) rb ra hh) _ _ ?_
  have e : (va.length == vb.length && r) = r := by
    have h1 : va.length = vb.length := by rw [← Paired.length ra, ← Paired.length rb, hl]
    rw [h1]; simp
  rw [e]
  exact ⟨.bl r, H, I, rfl, q⟩
end
/-! ### the data of an answer -/
theorem wr_eqv (p q : Str × Str) : PyData.eqv (wrD p) (wrD q) = decide (p = q) := by
  obtain ⟨a, b⟩ := p
  obtain ⟨c, d⟩ := q
  unfold wrD
  simp only [PyData.eqv, PyData.eqvAll, Prod.mk.injEq, Bool.and_true, Bool.decide_and]
  congr 1
theorem env_eqvAll : ∀ L M : Env, PyData.eqvAll (L.map wrD) (M.map wrD) = decide (L = M)
  | [], [] => rfl
  | [], _ :: _ => rfl
  | _ :: _, [] => rfl
  | p :: L, q :: M => by
    rw [List.map_cons, List.map_cons]
    simp only [PyData.eqvAll, wr_eqv, env_eqvAll L M, List.cons.injEq, Bool.decide_and]
theorem strs_eqvAll : ∀ L M : List Str, PyData.eqvAll (L.map PyData.str) (M.map PyData.str) = decide (L = M)
  | [], [] => rfl
  | [], _ :: _ => rfl
  | _ :: _, [] => rfl
  | p :: L, q :: M => by
    rw [List.map_cons, List.map_cons]
    simp only [PyData.eqvAll, PyData.eqv, strs_eqvAll L M, List.cons.injEq, Bool.decide_and]
    congr 1
theorem nm_ok {z : Str} (h : isNm z = true) : PyData.strOk z = true := by
  unfold isNm at h
  simp only [Bool.and_eq_true] at h
  have h2 := h.2
  unfold PyData.strOk
  rw [← Array.all_toList]
  rw [List.all_eq_true] at h2 ⊢
  intro c hc
  have := h2 c hc
  unfold lowc at this
  simp only [Bool.and_eq_true, decide_eq_true_eq] at this
  exact decide_eq_true (by omega)
theorem env_lay : ∀ L : Env, (∀ p ∈ L, isNm p.1 = true ∧ isNm p.2 = true) → PyData.canLayAll0 (L.map wrD) = true
  | [], _ => rfl
  | p :: L, h => by
    have h1 := h p List.mem_cons_self
    have h2 := env_lay L fun q hq => h q (List.mem_cons_of_mem _ hq)
    rw [List.map_cons]
    unfold wrD at h2 ⊢
    simp only [PyData.canLayAll0, PyData.canLay0, nm_ok h1.1, nm_ok h1.2, h2]
    rfl
theorem strs_lay : ∀ L : List Str, (∀ z ∈ L, isNm z = true) → PyData.canLayAll0 (L.map PyData.str) = true
  | [], _ => rfl
  | p :: L, h => by
    have h2 := strs_lay L fun q hq => h q (List.mem_cons_of_mem _ hq)
    rw [List.map_cons]
    simp only [PyData.canLayAll0, PyData.canLay0, nm_ok (h p List.mem_cons_self), h2]
    rfl
theorem env_deep : ∀ L : Env, PyData.depthAll (L.map wrD) ≤ 2
  | [] => by simp [PyData.depthAll]
  | p :: L => by
    rw [List.map_cons]
    unfold wrD
    have := env_deep L
    unfold wrD at this
    simp only [PyData.depthAll, PyData.depth]
    omega
theorem strs_deep : ∀ L : List Str, PyData.depthAll (L.map PyData.str) ≤ 2
  | [] => by simp [PyData.depthAll]
  | p :: L => by
    rw [List.map_cons]
    have := strs_deep L
    simp only [PyData.depthAll, PyData.depth]
    omega
/-! ### all that a run holds are names -/
structure RS.Nm (st : RS) : Prop where
  sl : ∀ p ∈ st.slots, isNm p.2 = true
  no : ∀ p ∈ st.noted, isNm p.1 = true ∧ isNm p.2 = true
  pe : ∀ p ∈ st.peeked, isNm p.1 = true ∧ isNm p.2 = true
  sa : ∀ z ∈ st.said, isNm z = true
  wr : ∀ p ∈ st.written, isNm p.1 = true ∧ isNm p.2 = true
  gi : isNm st.given = true
structure ScNm (S : Sc) (kn : Str → Str) : Prop where
  rd : ∀ c ∈ S.readable, isNm c = true ∧ isNm (kn c) = true
  so : ∀ c ∈ S.sources, isNm c = true
  wo : ∀ c ∈ S.words, isNm c = true
theorem put_mem {L : Env} {k v : Str} {p : Str × Str} (h : p ∈ putE L k v) : p ∈ L ∨ (p.1 = k ∧ p.2 = v) := by
  unfold putE at h
  split at h
  · obtain ⟨q, hq, e⟩ := List.mem_map.mp h
    split at e
    · rename_i e2
      subst e
      exact .inr ⟨e2, rfl⟩
    · subst e; exact .inl hq
  · rcases List.mem_append.mp h with h | h
    · exact .inl h
    · rw [List.mem_singleton] at h
      subst h
      exact .inr ⟨rfl, rfl⟩
theorem sd_mem {L : Env} {k v : Str} {p : Str × Str} (h : p ∈ sdE L k v) : p ∈ L ∨ (p.1 = k ∧ p.2 = v) := by
  unfold sdE at h
  split at h
  · exact .inl h
  · exact put_mem h
theorem get_has {L : Env} {k u : Str} (h : getE L k = some u) : ∃ p ∈ L, p.2 = u := by
  unfold getE at h
  obtain ⟨p, hp, e⟩ := Option.map_eq_some_iff.mp h
  exact ⟨p, List.mem_of_find?_eq_some hp, e⟩
theorem word_nm {st : RS} {d s : Str} (h : st.Nm) (hd : isNm d = true) : isNm (st.word d s) = true := by
  unfold RS.word
  cases e : getE st.slots s with
  | none => exact hd
  | some u =>
    obtain ⟨p, hp, rfl⟩ := get_has e
    exact h.sl p hp
mutual
theorem nm_R {S : Sc} {kn : Str → Str} {d : Str} (hS : ScNm S kn) (hd : isNm d = true) : ∀ (r : Row) (dep : Nat) (st : RS), okR S dep r → st.Nm → (runR kn d r st).1.Nm
  | .rd pk c s, dep, st, ok, h => by
    unfold okR at ok
    obtain ⟨c1, c2⟩ := hS.rd c ok.2.1
    have hs : ∀ p ∈ putE st.slots s (kn c), isNm p.2 = true := fun p hp => by
      rcases put_mem hp with q | ⟨_, e⟩
      · exact h.sl p q
      · rw [e]; exact c2
    have hg : ∀ L : Env, (∀ p ∈ L, isNm p.1 = true ∧ isNm p.2 = true) → ∀ p ∈ sdE L c (kn c), isNm p.1 = true ∧ isNm p.2 = true := fun L hL p hp => by
      rcases sd_mem hp with q | ⟨e1, e2⟩
      · exact hL p q
      · rw [e1, e2]; exact ⟨c1, c2⟩
    simp only [runR]
    cases pk
    · exact ⟨hs, hg _ h.no, h.pe, h.sa, h.wr, h.gi⟩
    · exact ⟨hs, h.no, hg _ h.pe, h.sa, h.wr, h.gi⟩
  | .put s u, dep, st, ok, h => by
    unfold okR at ok
    simp only [runR]
    refine ⟨fun p hp => ?_, h.no, h.pe, h.sa, h.wr, h.gi⟩
    rcases put_mem hp with q | ⟨_, e⟩
    · exact h.sl p q
    · rw [e]; exact hS.wo u ok.2
  | .give s, dep, st, ok, h => by
    simp only [runR]
    exact ⟨h.sl, h.no, h.pe, h.sa, h.wr, word_nm h hd⟩
  | .say s, dep, st, ok, h => by
    simp only [runR]
    refine ⟨h.sl, h.no, h.pe, fun z hz => ?_, h.wr, h.gi⟩
    rcases List.mem_append.mp hz with q | q
    · exact h.sa z q
    · rw [List.mem_singleton.mp q]; exact word_nm h hd
  | .wr c s, dep, st, ok, h => by
    unfold okR at ok
    simp only [runR]
    refine ⟨h.sl, h.no, h.pe, h.sa, fun p hp => ?_, h.gi⟩
    rcases List.mem_append.mp hp with q | q
    · exact h.wr p q
    · rw [List.mem_singleton.mp q]; exact ⟨hS.so c ok.2.1, word_nm h hd⟩
  | .ite s u y n, dep, st, ok, h => by
    unfold okR at ok
    simp only [runR]
    split
    · exact nm_Rs hS hd y (dep + 1) st ok.2.2.2.1 h
    · exact nm_Rs hS hd n (dep + 1) st ok.2.2.2.2 h
theorem nm_Rs {S : Sc} {kn : Str → Str} {d : Str} (hS : ScNm S kn) (hd : isNm d = true) : ∀ (rs : List Row) (dep : Nat) (st : RS), okRs S dep rs → st.Nm → (runRs kn d rs st).1.Nm
  | [], dep, st, ok, h => by simp only [runRs]; exact h
  | r :: rs, dep, st, ok, h => by
    unfold okRs at ok
    have h1 := nm_R hS hd r dep st ok.1 h
    by_cases hb : (runR kn d r st).2 = true
    · rw [runRs_yes _ hb]; exact h1
    · rw [runRs_no _ hb]; exact nm_Rs hS hd rs dep _ ok.2 h1
end
end Td
/-! The head's look for a program with a method that opens with super().__init__(). -/
namespace Td
open PySem PySem.Spec PyProof.Rows L2
def frU (n : Nat) (g : Addr → Option Obj) : PySem.W.Frag := He.frT g (cStatics :: He.asD g n)
abbrev FnC : Type := Option (Str × Str × Arguments × FuncBody × Scope × Addr × List Str × Addr)
/-- a function's text, its closure by names alone -/
def fnC (K : PySem.W.Frag) (p : Str × Option Str) : FnC := match K.lookup (He.fAd K p) with
  | some ⟨_, _, .func fd, _⟩ => some (fd.name, fd.qualname, fd.params, fd.body, fd.scope, fd.globals, fd.closure.map (·.1), fd.builtins)
  | _ => none
structure SupD where
  cls : Str
  oth : Str
  qual : Str
  file : Str
  params : Arguments
  body : List Stmt
  scope : Scope
def SupD.at_ (d : SupD) : Str × Option Str := (d.cls, some "__init__")
def SupD.val (d : SupD) : FnC := some ("__init__", d.qual, d.params, .stmts d.body, d.scope, mainGlobals, ["__class__"], builtinsNs)
def cellB (K : PySem.W.Frag) (d : SupD) (l : List (Str × Addr)) : Bool := match l with
  | [q] => (match K.lookup q.2 with
    | some ⟨_, _, .cell (some (.ref D)), _⟩ => decide (D = He.ga K d.cls)
    | _ => false)
  | _ => false
def noneB (v : Value) : Bool := match v with
  | .none => true
  | _ => false
def strB (x : Str) (v : Option Value) : Bool := match v with
  | some (.str f _) => x == f
  | _ => false
def fileB (K : PySem.W.Frag) (d : SupD) (v : Value) : Bool := match v with
  | .ref cda => (match K.lookup cda with
    | some ⟨_, _, .fields vs, _⟩ => strB d.file (vs[2]?)
    | _ => false)
  | _ => false
theorem cellB_ok {K : PySem.W.Frag} {d : SupD} {l : List (Str × Addr)} (h : cellB K d l = true) : ∃ x cc c1 c2 c4, l = [(x, cc)] ∧ K.lookup cc = some ⟨c1, c2, .cell (some (.ref (He.ga K d.cls))), c4⟩ := by
  unfold cellB at h
  split at h
  · rename_i q
    split at h
    · rename_i c1 c2 D c4 e
      exact ⟨q.1, q.2, c1, c2, c4, rfl, by rw [e, of_decide_eq_true h]⟩
    · cases h
  · cases h
theorem noneB_ok {v : Value} (h : noneB v = true) : v = .none := by
  cases v with
  | none => rfl
  | _ => cases h
theorem strB_ok {x : Str} {v : Option Value} (h : strB x v = true) : ∃ f t, v = some (.str f t) ∧ (x == f) = true := by
  unfold strB at h
  split at h
  · rename_i f t
    exact ⟨f, t, rfl, h⟩
  · cases h
theorem fileB_ok {K : PySem.W.Frag} {d : SupD} {v : Value} (h : fileB K d v = true) : ∃ cda f1 f2 vs f4 f t, v = .ref cda ∧ K.lookup cda = some ⟨f1, f2, .fields vs, f4⟩ ∧ vs[2]? = some (.str f t) ∧ (d.file == f) = true := by
  unfold fileB at h
  split at h
  · rename_i cda
    split at h
    · rename_i f1 f2 vs f4 e
      obtain ⟨f, t, h1, h2⟩ := strB_ok h
      exact ⟨cda, f1, f2, vs, f4, f, t, rfl, e, h1, h2⟩
    · cases h
  · cases h
def supFn (K : PySem.W.Frag) (d : SupD) : Bool := match K.lookup (He.fAd K d.at_) with
  | some ⟨_, _, .func fd, _⟩ => cellB K d fd.closure && (noneB fd.defaults && (fileB K d fd.code && PySem.W.codeIn K fd.code d.qual))
  | _ => false
def supB (K : PySem.W.Frag) (d : SupD) : Bool := supFn K d && ((PySem.W.clsIn K (He.ga K d.cls)).isSome && (decide (PySem.W.mroIn K (He.ga K d.cls) (.ref (He.ga K d.cls)) = some true) && (He.eqO (PySem.W.ks_superIn K (He.ga K d.cls) (He.ga K d.cls) "__init__") (some (some (.ref (He.fAd K (d.oth, some "__init__"))))) &&
  (decide (PySem.W.typeIn K (.ref (He.fAd K (d.oth, some "__init__"))) = some (.type "function")) && (PySem.W.fnIn K (He.fAd K (d.oth, some "__init__")) && (He.eqO (PySem.W.nsIn K cStatics "thirdparty.any") (some none) && (He.eqO (PySem.W.nsIn K mainGlobals "super") (some none) && PySem.W.keepIn K (.ref (He.fAd K d.at_)))))))))
theorem sup_of {P : Program} {K : PySem.W.Frag} {d : SupD} {st : Stmt} (hp : d.params = defArgs st) (hb : d.body = defBody st) (hs : d.scope = defScope st) (hf : P.main.file = d.file) (e : fnC K d.at_ = d.val) (c : supB K d = true) :
    ∃ fd, Sup P K d.qual st (He.fAd K d.at_) (He.ga K d.cls) (He.fAd K (d.oth, some "__init__")) fd := by
  obtain ⟨c1, c⟩ := He.ba c
  obtain ⟨c2, c⟩ := He.ba c
  obtain ⟨c3, c⟩ := He.ba c
  obtain ⟨c4, c⟩ := He.ba c
  obtain ⟨c5, c⟩ := He.ba c
  obtain ⟨c6, c⟩ := He.ba c
  obtain ⟨c7, c⟩ := He.ba c
  obtain ⟨c8, c9⟩ := He.ba c
  unfold supFn at c1
  unfold fnC at e
  cases q : K.lookup (He.fAd K d.at_) with
  | none => rw [q] at e; cases e
  | some o =>
    obtain ⟨oc, od, dt, osl⟩ := o
    rw [q] at e c1
    cases dt with
    | func fd =>
      obtain ⟨n1, n2, n3, n4, n5, n6, n7, n8, n9, n10, n11, n12, n13, n14, n15⟩ := fd
      have e2 : (some (n1, n2, n3, n4, n5, n6, n7.map (·.1), n15) : FnC) = d.val := e
      unfold SupD.val at e2
      simp only [Option.some.injEq, Prod.mk.injEq] at e2
      obtain ⟨h1, h2, h3, h4, h5, h6, h7, h8⟩ := e2
      obtain ⟨d1, d2⟩ := He.ba c1
      obtain ⟨d3, d4⟩ := He.ba d2
      obtain ⟨d5, d6⟩ := He.ba d4
      obtain ⟨x1, cc, k1, k2, k4, hl, hcc⟩ := cellB_ok d1
      obtain ⟨cda, f1, f2, vs, f4, f, tf, hcode, hcda, hv, hfile⟩ := fileB_ok d5
      have hd := noneB_ok d3
      dsimp only at hl hcode hd d6
      subst hl
      have hx : x1 = "__class__" := by simpa using h7
      subst hx h1 h2 h3 h4 h5 h6 h8 hcode hd
      obtain ⟨cd, hcd⟩ := Option.isSome_iff_exists.mp c2
      refine ⟨_, ⟨oc, od, osl, n9, n10, n11, n12, n14, cc, cda, f1, f2, vs, f4, f, tf, k1, k2, k4, rfl, ?_, d6, hcda, hv, by rw [hf]; exact hfile, hcc⟩, ⟨cd, hcd⟩, of_decide_eq_true c3, He.eqO_ok c4, of_decide_eq_true c5, c6, He.eqO_ok c7, He.eqO_ok c8, c9⟩
      rw [← hp, ← hb, ← hs]
      exact q
    | _ => cases e
/-! ### the Hook -/
abbrev AlU : Type := He.AlT × (Bool × List FnC)
def obsU (n : Nat) (fa : List He.Fa) (fn : List He.DefD) (ts : List He.Tab) (us : List SupD) (ex : PySem.W.Frag → Bool) (g : Addr → Option Obj) : AlU := (He.obsT fa fn ts (frU n g), (ex (frU n g) && us.all (supB (frU n g)), us.map fun d => fnC (frU n g) d.at_))
def valU (fn : List He.DefD) (ts : List He.Tab) (us : List SupD) (w : World) : AlU := (He.valT fn ts w, (true, us.map SupD.val))
structure SaysU (fa : List He.Fa) (fn : List He.DefD) (ts : List He.Tab) (us : List SupD) (ex : PySem.W.Frag → Bool) (w : World) (K : PySem.W.Frag) : Prop where
  t : He.SaysT fa fn ts w K
  more : ex K = true
  us : ∀ d ∈ us, supB K d = true ∧ fnC K d.at_ = d.val
theorem saysU_of {n : Nat} {fa : List He.Fa} {fn : List He.DefD} {ts : List He.Tab} {us : List SupD} {ex : PySem.W.Frag → Bool} {w : World} {g : Addr → Option Obj} (e : obsU n fa fn ts us ex g = valU fn ts us w) : SaysU fa fn ts us ex w (frU n g) := by
  have e1 : He.obsT fa fn ts (frU n g) = He.valT fn ts w := congrArg (fun z : AlU => z.1) e
  have e2 : (ex (frU n g) && us.all (supB (frU n g))) = true := congrArg (fun z : AlU => z.2.1) e
  have e3 : (us.map fun d => fnC (frU n g) d.at_) = us.map SupD.val := congrArg (fun z : AlU => z.2.2) e
  obtain ⟨a, b⟩ := He.ba e2
  refine ⟨e1, a, fun d hd => ⟨List.all_eq_true.mp b d hd, ?_⟩⟩
  exact List.map_inj_left.mp e3 d hd
def hookU (n : Nat) (fa : List He.Fa) (fn : List He.DefD) (ts : List He.Tab) (us : List SupD) (ex : PySem.W.Frag → Bool) : PySem.W.Hook where
  α := AlU
  obs := fun s => obsU n fa fn ts us ex s.heap.get?
  val := fun w => valU fn ts us w
  says := fun w h => ∃ K : PySem.W.Frag, K.In h ∧ SaysU fa fn ts us ex w K
  of := fun _ _ e => ⟨_, He.frT_in, saysU_of e⟩
  keeps := fun _ _ _ ⟨K, hK, c⟩ k => ⟨K, PySem.W.Frag.In.keeps hK k, c⟩
theorem obsU_eq {n : Nat} {fa : List He.Fa} {fn : List He.DefD} {ts : List He.Tab} {us : List SupD} {ex : PySem.W.Frag → Bool} {g : Addr → Option Obj} {s : Shared} (h : ∀ a, g a = s.heap.get? a) : obsU n fa fn ts us ex g = (hookU n fa fn ts us ex).obs s := by
  have e : g = s.heap.get? := funext h
  rw [e] <;> rfl
end Td
/-! The head's look over a list of places that is written out. -/
namespace Td
open PySem PySem.Spec PyProof.Rows L2
def obsV (as : List Addr) (fa : List He.Fa) (fn : List He.DefD) (ts : List He.Tab) (us : List SupD) (ex : PySem.W.Frag → Bool) (g : Addr → Option Obj) : AlU := (He.obsT fa fn ts (He.frT g as), (ex (He.frT g as) && us.all (supB (He.frT g as)), us.map fun d => fnC (He.frT g as) d.at_))
theorem saysV_of {as : List Addr} {fa : List He.Fa} {fn : List He.DefD} {ts : List He.Tab} {us : List SupD} {ex : PySem.W.Frag → Bool} {w : World} {g : Addr → Option Obj} (e : obsV as fa fn ts us ex g = valU fn ts us w) : SaysU fa fn ts us ex w (He.frT g as) := by
  have e1 : He.obsT fa fn ts (He.frT g as) = He.valT fn ts w := congrArg (fun z : AlU => z.1) e
  have e2 : (ex (He.frT g as) && us.all (supB (He.frT g as))) = true := congrArg (fun z : AlU => z.2.1) e
  have e3 : (us.map fun d => fnC (He.frT g as) d.at_) = us.map SupD.val := congrArg (fun z : AlU => z.2.2) e
  obtain ⟨a, b⟩ := He.ba e2
  exact ⟨e1, a, fun d hd => ⟨List.all_eq_true.mp b d hd, List.map_inj_left.mp e3 d hd⟩⟩
def hookV (as : List Addr) (fa : List He.Fa) (fn : List He.DefD) (ts : List He.Tab) (us : List SupD) (ex : PySem.W.Frag → Bool) : PySem.W.Hook where
  α := AlU
  obs := fun s => obsV as fa fn ts us ex s.heap.get?
  val := fun w => valU fn ts us w
  says := fun w h => ∃ K : PySem.W.Frag, K.In h ∧ SaysU fa fn ts us ex w K
  of := fun _ _ e => ⟨_, He.frT_in, saysV_of e⟩
  keeps := fun _ _ _ ⟨K, hK, c⟩ k => ⟨K, PySem.W.Frag.In.keeps hK k, c⟩
theorem obsV_eq {as : List Addr} {fa : List He.Fa} {fn : List He.DefD} {ts : List He.Tab} {us : List SupD} {ex : PySem.W.Frag → Bool} {g : Addr → Option Obj} {s : Shared} (h : ∀ a, g a = s.heap.get? a) : obsV as fa fn ts us ex g = (hookV as fa fn ts us ex).obs s := by
  have e : g = s.heap.get? := funext h
  rw [e] <;> rfl
end Td
/-! The head's look for own exceptions of one field. -/
namespace Td
open PySem PySem.Spec PyProof.Rows L2
def mroVE (C : Addr) : List Value → Bool
  | .ref D :: bm => decide (D = C) && PySem.HandSPX.refsVE bm
  | _ => false
theorem mroVE_ok {C : Addr} {l : List Value} (h : mroVE C l = true) : ∃ bm, l = .ref C :: bm ∧ PySem.HandSPX.refsVE bm = true := by
  unfold mroVE at h
  split at h
  · rename_i D bm
    obtain ⟨h1, h2⟩ := He.ba h
    exact ⟨bm, by rw [of_decide_eq_true h1], h2⟩
  · cases h
def newVE : List (Option Value) → Bool
  | [_, _, _, _, some (.builtin n), _] => n == "ValueError.__new__"
  | _ => false
theorem newVE_ok {l : List (Option Value)} (h : newVE l = true) : ∃ k0 k1 k2 k3 k5, l = [k0, k1, k2, k3, some (.builtin "ValueError.__new__"), k5] := by
  unfold newVE at h
  split at h
  · rename_i k0 k1 k2 k3 n k5
    exact ⟨k0, k1, k2, k3, k5, by rw [of_decide_eq_true h]⟩
  · cases h
def oexCls (K : PySem.W.Frag) (C : Addr) : Bool := match K.lookup C with
  | some ⟨.type "type", _, .cls cd, sl⟩ => cd.hasDict && (!cd.hasDel && (mroVE C cd.mro && newVE sl.toList))
  | _ => false
def oexB (K : PySem.W.Frag) (C : Addr) : Bool := oexCls K C && (He.eqO (PySem.W.findIn K (.ref C) "__setattr__") (some (some (.builtin "object.__setattr__"))) && (decide (PySem.W.subIn K (.ref C) (.type "BaseException") = some true) && (decide (PySem.W.typeIn K (.ref C) = some (.type "type")) && PySem.W.keepIn K (.ref C))))
theorem oexB_ok {K : PySem.W.Frag} {C : Addr} (h : oexB K C = true) : OexC K C := by
  obtain ⟨c1, h⟩ := He.ba h
  obtain ⟨c2, h⟩ := He.ba h
  obtain ⟨c3, h⟩ := He.ba h
  obtain ⟨c4, c5⟩ := He.ba h
  refine ⟨?_, He.eqO_ok c2, of_decide_eq_true c3, of_decide_eq_true c4, c5⟩
  unfold oexCls at c1
  split at c1
  · rename_i dd cd sl e
    obtain ⟨d1, c1⟩ := He.ba c1
    obtain ⟨d2, c1⟩ := He.ba c1
    obtain ⟨d3, d4⟩ := He.ba c1
    obtain ⟨bm, em, hm⟩ := mroVE_ok d3
    obtain ⟨k0, k1, k2, k3, k5, es⟩ := newVE_ok d4
    obtain ⟨nm, bs, mro, ns, qn, hd, sn, sb, ab, col, del⟩ := cd
    obtain ⟨sl⟩ := sl
    dsimp only at d1 d2 em es
    subst em es d1
    have d2' : del = false := by simpa using d2
    subst d2'
    exact ⟨nm, qn, ns, bs, bm, sn, sb, ab, col, dd, k0, k1, k2, k3, k5, e, hm⟩
  · cases c1
/-- an own exception class, its __init__ and its one field -/
def excB (K : PySem.W.Frag) (x f : Str) : Bool := oexB K (He.ga K x) && (He.eqO (PySem.W.findIn K (.ref (He.ga K x)) "__init__") (some (some (.ref (He.fAd K (x, some "__init__"))))) && (decide (PySem.W.typeIn K (.ref (He.fAd K (x, some "__init__"))) = some (.type "function")) && (He.eqO (PySem.W.findIn K (.ref (He.ga K x)) f) (some none) && xfB K (He.ga K x))))
theorem excB_ok {K : PySem.W.Frag} {x f : Str} (h : excB K x f = true) : OexC K (He.ga K x) ∧ PySem.W.findIn K (.ref (He.ga K x)) "__init__" = some (some (.ref (He.fAd K (x, some "__init__")))) ∧ PySem.W.typeIn K (.ref (He.fAd K (x, some "__init__"))) = some (.type "function") ∧
    PySem.W.findIn K (.ref (He.ga K x)) f = some none ∧ XfC K (He.ga K x) := by
  obtain ⟨c1, h⟩ := He.ba h
  obtain ⟨c2, h⟩ := He.ba h
  obtain ⟨c3, h⟩ := He.ba h
  obtain ⟨c4, c5⟩ := He.ba h
  exact ⟨oexB_ok c1, He.eqO_ok c2, of_decide_eq_true c3, He.eqO_ok c4, xfB_ok c5⟩
end Td
namespace K41
open PySem PySem.Spec PyProof.Rows L2 Td
def top (i : Nat) : Stmt := PySem.Challenge.pw_toldonward_k41_deed_texts.main.body.getD i (.Pass ⟨0, 0, 0, 0⟩)
abbrev s_is_name : Stmt := top 2
abbrev N_is_name : List Str := ["value", "letter"]
theorem sc_is_name : FnScope N_is_name ["value"] (defScope s_is_name) := ⟨rfl, rfl, rfl, by decide +kernel, rfl, by decide +kernel, by decide +kernel⟩
abbrev s_InvalidText_init : Stmt := inClass (top 5) 0
abbrev N_InvalidText_init : List Str := ["self", "line"]
theorem sc_InvalidText_init : FnScope N_InvalidText_init ["self", "line"] (defScope s_InvalidText_init) := ⟨rfl, rfl, rfl, by decide +kernel, rfl, by decide +kernel, by decide +kernel⟩
abbrev s_lines_of : Stmt := top 7
abbrev N_lines_of : List Str := ["text"]
theorem sc_lines_of : FnScope N_lines_of ["text"] (defScope s_lines_of) := ⟨rfl, rfl, rfl, by decide +kernel, rfl, by decide +kernel, by decide +kernel⟩
abbrev s_joined : Stmt := top 8
abbrev N_joined : List Str := ["lines", "line"]
theorem sc_joined : FnScope N_joined ["lines"] (defScope s_joined) := ⟨rfl, rfl, rfl, by decide +kernel, rfl, by decide +kernel, by decide +kernel⟩
abbrev s_format_deeds : Stmt := top 9
abbrev N_format_deeds : List Str := ["deeds", "deed"]
theorem sc_format_deeds : FnScope N_format_deeds ["deeds"] (defScope s_format_deeds) := ⟨rfl, rfl, rfl, by decide +kernel, rfl, by decide +kernel, by decide +kernel⟩
abbrev s_line_of_deed : Stmt := top 10
abbrev N_line_of_deed : List Str := ["deed", "items", "write"]
theorem sc_line_of_deed : FnScope N_line_of_deed ["deed"] (defScope s_line_of_deed) := ⟨rfl, rfl, rfl, by decide +kernel, rfl, by decide +kernel, by decide +kernel⟩
abbrev s_parse_deeds : Stmt := top 11
abbrev N_parse_deeds : List Str := ["text", "deeds", "index", "line", "deed"]
theorem sc_parse_deeds : FnScope N_parse_deeds ["text"] (defScope s_parse_deeds) := ⟨rfl, rfl, rfl, by decide +kernel, rfl, by decide +kernel, by decide +kernel⟩
abbrev s_deed_of : Stmt := top 12
abbrev N_deed_of : List Str := ["items", "names", "sources", "name"]
theorem sc_deed_of : FnScope N_deed_of ["items"] (defScope s_deed_of) := ⟨rfl, rfl, rfl, by decide +kernel, rfl, by decide +kernel, by decide +kernel⟩
abbrev s_law_state : Stmt := top 14
abbrev N_law_state : List Str := ["_law_script"]
theorem sc_law_state : FnScope N_law_state ["_law_script"] (defScope s_law_state) := ⟨rfl, rfl, rfl, by decide +kernel, rfl, by decide +kernel, by decide +kernel⟩
abbrev s_law_draw : Stmt := top 15
abbrev N_law_draw : List Str := ["_law_state_here", "_law_many_here", "_law_cell", "_law_digit", "_law_one", "_law_two", "_law_three"]
theorem sc_law_draw : FnScope N_law_draw ["_law_state_here", "_law_many_here"] (defScope s_law_draw) := ⟨rfl, rfl, rfl, by decide +kernel, rfl, by decide +kernel, by decide +kernel⟩
abbrev s_law_names : Stmt := top 16
abbrev N_law_names : List Str := ["_law_state_here", "_law_many_here", "_law_place", "_law_first", "_law_shared", "_law_base", "_law_letters", "_law_names_here", "_law_k", "_law_other", "_law_size", "_law_name", "_law_at"]
theorem sc_law_names : FnScope N_law_names ["_law_state_here", "_law_many_here"] (defScope s_law_names) := ⟨rfl, rfl, rfl, by decide +kernel, rfl, by decide +kernel, by decide +kernel⟩
abbrev s_law_many : Stmt := top 17
abbrev N_law_many : List Str := ["_law_rows_here", "_law_total", "_law_row_here"]
theorem sc_law_many : FnScope N_law_many ["_law_rows_here"] (defScope s_law_many) := ⟨rfl, rfl, rfl, by decide +kernel, rfl, by decide +kernel, by decide +kernel⟩
abbrev s_law_row : Stmt := top 18
abbrev N_law_row : List Str := ["_law_state_here", "_law_shape", "_law_kind", "_law_slot", "_law_cell"]
theorem sc_law_row : FnScope N_law_row ["_law_state_here", "_law_shape"] (defScope s_law_row) := ⟨rfl, rfl, rfl, by decide +kernel, rfl, by decide +kernel, by decide +kernel⟩
abbrev s_law_rows : Stmt := top 19
abbrev N_law_rows : List Str := ["_law_state_here", "_law_shape", "_law_depth", "_law_room", "_law_rows_here", "_law_left", "_law_turn", "_law_slot", "_law_cell", "_law_word", "_law_yes", "_law_no"]
theorem sc_law_rows : FnScope N_law_rows ["_law_state_here", "_law_shape", "_law_depth", "_law_room"] (defScope s_law_rows) := ⟨rfl, rfl, rfl, by decide +kernel, rfl, by decide +kernel, by decide +kernel⟩
abbrev s_law_parts : Stmt := top 20
abbrev N_law_parts : List Str := ["_law_state_here", "_law_sizes", "_law_peeks", "_law_writes", "_law_many_words", "_law_many_sources", "_law_many_derived", "_law_many_effects", "_law_words", "_law_names_here", "_law_slots", "_law_sources", "_law_shape", "_law_derived", "_law_k", "_law_name", "_law_rows_here", "_law_effects"]
theorem sc_law_parts : FnScope N_law_parts ["_law_state_here", "_law_sizes", "_law_peeks", "_law_writes"] (defScope s_law_parts) := ⟨rfl, rfl, rfl, by decide +kernel, rfl, by decide +kernel, by decide +kernel⟩
abbrev s_law_deed : Stmt := top 21
abbrev N_law_deed : List Str := ["_law_state_here", "_law_parts_here", "_law_kind", "_law_cells", "_law_source", "_law_rest", "_law_writes", "_law_turn", "_law_pair"]
theorem sc_law_deed : FnScope N_law_deed ["_law_state_here", "_law_parts_here"] (defScope s_law_deed) := ⟨rfl, rfl, rfl, by decide +kernel, rfl, by decide +kernel, by decide +kernel⟩
abbrev s_law_is_name : Stmt := top 22
abbrev N_law_is_name : List Str := ["_law_value", "_law_letter"]
theorem sc_law_is_name : FnScope N_law_is_name ["_law_value"] (defScope s_law_is_name) := ⟨rfl, rfl, rfl, by decide +kernel, rfl, by decide +kernel, by decide +kernel⟩
abbrev s_law_line : Stmt := top 23
abbrev N_law_line : List Str := ["_law_deed_here", "_law_words", "_law_pair"]
theorem sc_law_line : FnScope N_law_line ["_law_deed_here"] (defScope s_law_line) := ⟨rfl, rfl, rfl, by decide +kernel, rfl, by decide +kernel, by decide +kernel⟩
abbrev s_law_said : Stmt := top 24
abbrev N_law_said : List Str := ["_law_line_here", "_law_words", "_law_word", "_law_pairs", "_law_k", "_law_pair"]
theorem sc_law_said : FnScope N_law_said ["_law_line_here"] (defScope s_law_said) := ⟨rfl, rfl, rfl, by decide +kernel, rfl, by decide +kernel, by decide +kernel⟩
abbrev s_law_bad : Stmt := top 25
abbrev N_law_bad : List Str := ["_law_state_here", "_law_line_here", "_law_name", "_law_kind", "_law_words", "_law_place"]
theorem sc_law_bad : FnScope N_law_bad ["_law_state_here", "_law_line_here", "_law_name"] (defScope s_law_bad) := ⟨rfl, rfl, rfl, by decide +kernel, rfl, by decide +kernel, by decide +kernel⟩
abbrev s_law_parsed : Stmt := top 26
abbrev N_law_parsed : List Str := ["_law_text", "_law_found", "e"]
theorem sc_law_parsed : FnScope N_law_parsed ["_law_text"] (defScope s_law_parsed) := ⟨rfl, rfl, rfl, by decide +kernel, rfl, by decide +kernel, by decide +kernel⟩
abbrev s_law : Stmt := top 27
abbrev N_law : List Str := ["_law_script", "_law_state_here", "_law_many_here", "_law_spoils", "_law_short", "_law_parts_here", "_law_listed", "_law_lines", "_law_text", "_law_turn", "_law_found", "_law_place", "_law_due", "_law_line_here", "_law_deed_here"]
theorem sc_law : FnScope N_law ["_law_script"] (defScope s_law) := ⟨rfl, rfl, rfl, by decide +kernel, rfl, by decide +kernel, by decide +kernel⟩
/-- what stands behind the top -/
structure Tops (w : World) (K : PySem.W.Frag) (mg : Str → Option Value) where
  z_isinstance : mg "isinstance" = none
  z_str : mg "str" = none
  z_tuple : mg "tuple" = none
  z_list : mg "list" = none
  z_len : mg "len" = none
  z_all : mg "all" = none
  z_set : mg "set" = none
  z_enumerate : mg "enumerate" = none
  z_range : mg "range" = none
  z_abs : mg "abs" = none
  z_int : mg "int" = none
  z_max : mg "max" = none
  z_dict : mg "dict" = none
  z_zip : mg "zip" = none
  u_LONGEST_NAME : Tok
  c_LONGEST_NAME : mg "LONGEST_NAME" = some (.int 8 u_LONGEST_NAME)
  a_is_name : Addr
  d_is_name : FuncData
  F_is_name : Fun K "is_name" "is_name" s_is_name a_is_name d_is_name
  b_is_name : Binds K d_is_name ["value"] []
  m_is_name : mg "is_name" = some (.ref a_is_name)
  a_InvalidText_init : Addr
  d_InvalidText_init : FuncData
  F_InvalidText_init : Fun K "__init__" "InvalidText.__init__" s_InvalidText_init a_InvalidText_init d_InvalidText_init
  b_InvalidText_init : Binds K d_InvalidText_init ["self", "line"] []
  a_lines_of : Addr
  d_lines_of : FuncData
  F_lines_of : Fun K "lines_of" "lines_of" s_lines_of a_lines_of d_lines_of
  b_lines_of : Binds K d_lines_of ["text"] []
  m_lines_of : mg "lines_of" = some (.ref a_lines_of)
  a_joined : Addr
  d_joined : FuncData
  F_joined : Fun K "joined" "joined" s_joined a_joined d_joined
  b_joined : Binds K d_joined ["lines"] []
  m_joined : mg "joined" = some (.ref a_joined)
  a_format_deeds : Addr
  d_format_deeds : FuncData
  F_format_deeds : Fun K "format_deeds" "format_deeds" s_format_deeds a_format_deeds d_format_deeds
  b_format_deeds : Binds K d_format_deeds ["deeds"] []
  m_format_deeds : mg "format_deeds" = some (.ref a_format_deeds)
  a_line_of_deed : Addr
  d_line_of_deed : FuncData
  F_line_of_deed : Fun K "line_of_deed" "line_of_deed" s_line_of_deed a_line_of_deed d_line_of_deed
  b_line_of_deed : Binds K d_line_of_deed ["deed"] []
  m_line_of_deed : mg "line_of_deed" = some (.ref a_line_of_deed)
  a_parse_deeds : Addr
  d_parse_deeds : FuncData
  F_parse_deeds : Fun K "parse_deeds" "parse_deeds" s_parse_deeds a_parse_deeds d_parse_deeds
  b_parse_deeds : Binds K d_parse_deeds ["text"] []
  m_parse_deeds : mg "parse_deeds" = some (.ref a_parse_deeds)
  a_deed_of : Addr
  d_deed_of : FuncData
  F_deed_of : Fun K "deed_of" "deed_of" s_deed_of a_deed_of d_deed_of
  b_deed_of : Binds K d_deed_of ["items"] []
  m_deed_of : mg "deed_of" = some (.ref a_deed_of)
  a__law_state : Addr
  d__law_state : FuncData
  F__law_state : Fun K "_law_state" "_law_state" s_law_state a__law_state d__law_state
  b__law_state : Binds K d__law_state ["_law_script"] []
  m__law_state : mg "_law_state" = some (.ref a__law_state)
  a__law_draw : Addr
  d__law_draw : FuncData
  F__law_draw : Fun K "_law_draw" "_law_draw" s_law_draw a__law_draw d__law_draw
  b__law_draw : Binds K d__law_draw ["_law_state_here", "_law_many_here"] []
  m__law_draw : mg "_law_draw" = some (.ref a__law_draw)
  a__law_names : Addr
  d__law_names : FuncData
  F__law_names : Fun K "_law_names" "_law_names" s_law_names a__law_names d__law_names
  b__law_names : Binds K d__law_names ["_law_state_here", "_law_many_here"] []
  m__law_names : mg "_law_names" = some (.ref a__law_names)
  a__law_many : Addr
  d__law_many : FuncData
  F__law_many : Fun K "_law_many" "_law_many" s_law_many a__law_many d__law_many
  b__law_many : Binds K d__law_many ["_law_rows_here"] []
  m__law_many : mg "_law_many" = some (.ref a__law_many)
  a__law_row : Addr
  d__law_row : FuncData
  F__law_row : Fun K "_law_row" "_law_row" s_law_row a__law_row d__law_row
  b__law_row : Binds K d__law_row ["_law_state_here", "_law_shape"] []
  m__law_row : mg "_law_row" = some (.ref a__law_row)
  a__law_rows : Addr
  d__law_rows : FuncData
  F__law_rows : Fun K "_law_rows" "_law_rows" s_law_rows a__law_rows d__law_rows
  b__law_rows : Binds K d__law_rows ["_law_state_here", "_law_shape", "_law_depth", "_law_room"] []
  m__law_rows : mg "_law_rows" = some (.ref a__law_rows)
  a__law_parts : Addr
  d__law_parts : FuncData
  F__law_parts : Fun K "_law_parts" "_law_parts" s_law_parts a__law_parts d__law_parts
  b__law_parts : Binds K d__law_parts ["_law_state_here", "_law_sizes", "_law_peeks", "_law_writes"] []
  m__law_parts : mg "_law_parts" = some (.ref a__law_parts)
  a__law_deed : Addr
  d__law_deed : FuncData
  F__law_deed : Fun K "_law_deed" "_law_deed" s_law_deed a__law_deed d__law_deed
  b__law_deed : Binds K d__law_deed ["_law_state_here", "_law_parts_here"] []
  m__law_deed : mg "_law_deed" = some (.ref a__law_deed)
  a__law_is_name : Addr
  d__law_is_name : FuncData
  F__law_is_name : Fun K "_law_is_name" "_law_is_name" s_law_is_name a__law_is_name d__law_is_name
  b__law_is_name : Binds K d__law_is_name ["_law_value"] []
  m__law_is_name : mg "_law_is_name" = some (.ref a__law_is_name)
  a__law_line : Addr
  d__law_line : FuncData
  F__law_line : Fun K "_law_line" "_law_line" s_law_line a__law_line d__law_line
  b__law_line : Binds K d__law_line ["_law_deed_here"] []
  m__law_line : mg "_law_line" = some (.ref a__law_line)
  a__law_said : Addr
  d__law_said : FuncData
  F__law_said : Fun K "_law_said" "_law_said" s_law_said a__law_said d__law_said
  b__law_said : Binds K d__law_said ["_law_line_here"] []
  m__law_said : mg "_law_said" = some (.ref a__law_said)
  a__law_bad : Addr
  d__law_bad : FuncData
  F__law_bad : Fun K "_law_bad" "_law_bad" s_law_bad a__law_bad d__law_bad
  b__law_bad : Binds K d__law_bad ["_law_state_here", "_law_line_here", "_law_name"] []
  m__law_bad : mg "_law_bad" = some (.ref a__law_bad)
  a__law_parsed : Addr
  d__law_parsed : FuncData
  F__law_parsed : Fun K "_law_parsed" "_law_parsed" s_law_parsed a__law_parsed d__law_parsed
  b__law_parsed : Binds K d__law_parsed ["_law_text"] []
  m__law_parsed : mg "_law_parsed" = some (.ref a__law_parsed)
  a_law : Addr
  d_law : FuncData
  F_law : Fun K "law" "law" s_law a_law d_law
  b_law : Binds K d_law ["_law_script"] []
  m_law : mg "law" = some (.ref a_law)
  c_ToldError : Addr
  m_ToldError : mg "ToldError" = some (.ref c_ToldError)
  c_InvalidText : Addr
  m_InvalidText : mg "InvalidText" = some (.ref c_InvalidText)
  x_InvalidText : OexC K c_InvalidText
  xi_InvalidText : PySem.W.findIn K (.ref c_InvalidText) "__init__" = some (some (.ref a_InvalidText_init))
  xt_InvalidText : PySem.W.typeIn K (.ref a_InvalidText_init) = some (.type "function")
  n_InvalidText_line : PySem.W.findIn K (.ref c_InvalidText) "line" = some none
  xa_InvalidText : PySem.W.findIn K (.ref c_InvalidText) "__getattribute__" = some (some (.builtin "BaseException.__getattribute__"))
  xg_InvalidText : PySem.W.findIn K (.ref c_InvalidText) "__getattr__" = some none
  xh_InvalidText : PySem.W.hasDictIn K c_InvalidText = true
  xe_InvalidText : PySem.W.exmOne K (.ref c_InvalidText) (.ref c_InvalidText) = some true
end K41
namespace K41
open PySem PySem.Spec PyProof.Rows L2 Td
/-- the state of the draws at st -/
def stL (sc : Addr) (i d c s : Int) : List V := [.ref sc, .int i, .int d, .int c, .int s]
def StOk (H : Hp) (st sc : Addr) : Prop := ∃ (cs : List Int) (i d c s : Int),
  H st = some (.lst (stL sc i d c s)) ∧ H sc = some (.lst (cs.map V.int)) ∧ 0 ≤ d ∧ 0 ≤ i ∧ i ≤ cs.length ∧ cs.length ≤ 63 ∧ sc ≠ st
def spDraw : Sp := fun vs H Q _ => ∃ (st sc : Addr) (m : Int), vs = [.ref st, .int m] ∧ 0 < m ∧ m < 2 ^ 64 ∧ StOk H st sc ∧
  ∀ (r : Int) (H' : Hp), 0 ≤ r → r < m → Keep st H H' → StOk H' st sc → (∃ L, H' = upd H st (.lst L)) → Q (.int r) H'
def spState (K : PySem.W.Frag) : Sp := fun vs H Q _ => ∃ (a : Addr) (ns : List Int), vs = [.ref a] ∧ SqL K H a (ns.map V.int) ∧ ns.length ≤ 63 ∧
  ∀ (st sc : Addr) (H' : Hp), Same H H' → H st = none → H sc = none → StOk H' st sc → Q (.ref st) H'
section
variable {P : Program} {w : World} {K : PySem.W.Frag} {mg : Str → Option Value} {base : Heap}
theorem ok_draw (T : Tops w K mg) : FnOk P w K mg base CX0 1 T.a__law_draw T.d__law_draw ["_law_state_here", "_law_many_here"] spDraw := by
  refine T.F__law_draw.ok sc_law_draw (fun vs H Q E h => ?_) (fun cdv A outer s H vs Q E hr h => ?_)
  · obtain ⟨st, sc, m, rfl, _⟩ := h
    rfl
  obtain ⟨st, sc, m, rfl, hm0, hm1, ⟨cs, i, d, c, z, h1, h2, hd0, hi0, hi, h63, hne⟩, q⟩ := h
  refine ⟨_, (pss_cons (ps_augS (pv 0) pe_int get_list pe_int ip_add set_list)
    (C8.pss_cut (ps_if (PW.pt (pw_and (pt_cmpR op_eq (pe_ix ix_list (pv 0) pe_int (fun _ _ => rfl)) pe_int (nomark _)) (pw_and1 (pt_cmpR op_lt (pe_ix ix_list (pv 0) pe_int (fun _ _ => rfl)) (pe_callB call_len rfl T.z_len PySem.boot_len (pa_cons (pe_ix ix_list (pv 0) pe_int (fun _ _ => rfl)) pa_nil)) (nomark _))))) (pss_cons (ps_set (i := 2) sc_law_draw.nd rfl (Or.inl rfl) (pe_ix ix_list (pe_ix ix_list (pv 0) pe_int (fun _ _ => rfl)) (pe_ix ix_list (pv 0) pe_int (fun _ _ => rfl)) (fun _ _ => rfl)))
    (pss_cons (ps_augS (pv 0) pe_int get_list pe_int ip_add set_list)
    (pss_one (ps_if (pt_cmpR op_ge (pe_callB call_abs rfl T.z_abs (by decide +kernel) (pa_cons (pv 2) pa_nil)) (pe_op op_pow pe_int pe_int) (nomark _)) (pss_one (ps_asg (pe_callB call_abs rfl T.z_abs (by decide +kernel) (pa_cons (pv 2) pa_nil)) (pg_sub (pv 0) pe_int set_list))) (pss_one (ps_asg (pe_op op_modN (pe_callTy call_int1 rfl T.z_int (by decide +kernel) (pa_cons (pe_op op_add (pe_op op_add (pe_op op_mul (pe_ix ix_list (pv 0) pe_int (fun _ _ => rfl)) pe_int) (pv 2)) pe_int) pa_nil)) pe_int) (pg_sub (pv 0) pe_int set_list))))))) pss_nil)
    (pss_cons (ps_if (pt_cmpR op_gt (pe_ix ix_list (pv 0) pe_int (fun _ _ => rfl)) pe_int (nomark _)) (pss_cons (ps_set (i := 3) sc_law_draw.nd rfl (Or.inl rfl) (pe_op op_modN (pe_callTy call_int1 rfl T.z_int (by decide +kernel) (pa_cons (pe_ix ix_list (pv 0) pe_int (fun _ _ => rfl)) pa_nil)) (pv 1)))
    (pss_cons (ps_asg (pe_op op_fdivW (pe_ix ix_list (pv 0) pe_int (fun _ _ => rfl)) (pv 1)) (pg_sub (pv 0) pe_int set_list))
    (pss_one (ps_ret (pv 3))))) pss_nil)
    (pss_cons (ps_set (i := 4) sc_law_draw.nd rfl (Or.inl rfl) (pe_op op_modN (pe_callTy call_int1 rfl T.z_int (by decide +kernel) (pa_cons (pe_op op_mul (pe_op op_add (pe_op op_add (pe_ix ix_list (pv 0) pe_int (fun _ _ => rfl)) (pe_op op_mul pe_int (pe_ix ix_list (pv 0) pe_int (fun _ _ => rfl)))) pe_int) pe_int) pa_nil)) pe_int))
    (pss_cons (ps_set (i := 5) sc_law_draw.nd rfl (Or.inl rfl) (pe_op op_modN (pe_callTy call_int1 rfl T.z_int (by decide +kernel) (pa_cons (pe_op op_mul (pv 4) (pe_op op_add (pe_op op_fdivW (pv 4) pe_int) pe_int)) pa_nil)) pe_int))
    (pss_cons (ps_set (i := 6) sc_law_draw.nd rfl (Or.inl rfl) (pe_op op_modN (pe_callTy call_int1 rfl T.z_int (by decide +kernel) (pa_cons (pe_op op_mul (pv 5) (pe_op op_add (pe_op op_fdivW (pv 5) pe_int) pe_int)) pa_nil)) pe_int))
    (pss_one (ps_ret (pe_op op_modN (pe_callTy call_int1 rfl T.z_int (by decide +kernel) (pa_cons (pe_op op_fdivW (pv 6) pe_int) pa_nil)) (pv 1)))))))))), ?_⟩
  -- state[3] += 1
  refine ⟨_, rfl, st, _, 3, _, rfl, rfl, SqL.of h1, rfl, _, _, rfl, rfl, st, _, _, 3, rfl, rfl, h1, rfl, ?_⟩
  have k1 : Keep st H (upd H st (.lst (stL sc i d (c + 1) z))) := Keep.upd
  have e1 : upd H st (.lst (stL sc i d (c + 1) z)) st = some (.lst (stL sc i d (c + 1) z)) := upd_same
  have e2 : upd H st (.lst (stL sc i d (c + 1) z)) sc = some (.lst (cs.map V.int)) := k1 _ _ hne h2
  show C8.tCut _ _ _ _ (upd H st (.lst (stL sc i d (c + 1) z)))
  refine ⟨fun σ' H' => ∃ (v : Option V) (i' d' z' : Int), σ' = [some (.ref st), some (.int m), v, none, none, none, none] ∧
    H' = upd H st (.lst (stL sc i' d' (c + 1) z')) ∧ 0 ≤ d' ∧ 0 ≤ i' ∧ i' ≤ cs.length, ?_, ?_⟩
  · -- if state[2] == 0 and state[1] < len(state[0])
    refine ⟨_, rfl, st, _, 2, _, rfl, rfl, SqL.of e1, rfl, rfl, _, rfl, ?_⟩
    refine ite2 (fun c1 => ?_) (fun _ => iteF ⟨none, i, d, z, rfl, rfl, hd0, hi0, hi⟩)
    refine ⟨_, rfl, st, _, 1, _, rfl, rfl, SqL.of e1, rfl, _, rfl, st, _, 0, _, rfl, rfl, SqL.of e1, rfl, _, (cs.map V.int).length, rfl, .inl ⟨_, SqL.of e2, rfl⟩, _, _, rfl, rfl, _, rfl, ?_⟩
    refine ite2 (fun c2 => ?_) (fun _ => ⟨none, i, d, z, rfl, rfl, hd0, hi0, hi⟩)
    have hlt : i.toNat < cs.length := by
      have := of_decide_eq_true c2
      rw [List.length_map] at this
      omega
    have hat : atI (cs.map V.int) i = some (V.int cs[i.toNat]) := by
      have : atI (cs.map V.int) ((i.toNat : Nat) : Int) = some (V.int cs[i.toNat]) := atI_nat (by rw [List.getElem?_map, List.getElem?_eq_getElem hlt]; rfl)
      rwa [show ((i.toNat : Nat) : Int) = i by omega] at this
    -- cell = state[0][state[1]]; state[1] += 1
    refine ⟨_, rfl, st, _, 0, _, rfl, rfl, SqL.of e1, rfl, _, rfl, st, _, 1, _, rfl, rfl, SqL.of e1, rfl, sc, _, i, V.int cs[i.toNat], rfl, rfl, SqL.of e2, hat, ?_⟩
    refine ⟨_, rfl, st, _, 1, _, rfl, rfl, SqL.of e1, rfl, _, _, rfl, rfl, st, _, _, 1, rfl, rfl, e1, rfl, ?_⟩
    rw [upd_upd]
    have e3 : upd H st (.lst (stL sc (i + 1) d (c + 1) z)) st = some (.lst (stL sc (i + 1) d (c + 1) z)) := upd_same
    rw [show upd H st (.lst ((stL sc i d (c + 1) z).set 1 (V.int ((fun i j => i + j) i 1)))) = upd H st (.lst (stL sc (i + 1) d (c + 1) z)) from rfl]
    -- if abs(cell) >= 10 ** 18
    refine ⟨_, rfl, _, rfl, _, _, rfl, rfl, ⟨by decide, by decide, by decide⟩, _, _, rfl, rfl, _, rfl, ?_⟩
    refine ite2 (fun _ => ?_) (fun _ => ?_)
    · refine ⟨_, rfl, _, rfl, _, rfl, st, _, 2, 2, rfl, rfl, e3, rfl, ?_⟩
      rw [upd_upd]
      exact ⟨_, i + 1, _, z, rfl, rfl, by split <;> omega, by omega, by omega⟩
    · refine ⟨_, rfl, st, _, 4, _, rfl, rfl, SqL.of e3, rfl, _, _, rfl, rfl, .inr ⟨by decide, by decide⟩, _, rfl, _, _, rfl, rfl, _, _, rfl, rfl, .inl ⟨_, rfl, ?_⟩⟩
      refine ⟨_, _, rfl, rfl, (by show (2147483647 : Int) ≠ 0; decide), _, rfl, st, _, 4, 4, rfl, rfl, e3, rfl, ?_⟩
      rw [upd_upd]
      exact ⟨_, i + 1, _, _, rfl, rfl, hd0, by omega, by omega⟩
  · rintro σ' H' ⟨v, i', d', z', rfl, rfl, hd', hi0', hi'⟩
    have e3 : upd H st (.lst (stL sc i' d' (c + 1) z')) st = some (.lst (stL sc i' d' (c + 1) z')) := upd_same
    have e4 : ∀ i2 d2 c2 z2, upd H st (.lst (stL sc i2 d2 c2 z2)) sc = some (.lst (cs.map V.int)) := fun i2 d2 c2 z2 => by rw [upd_ne hne]; exact h2
    have fin : ∀ (r : Int) (d2 : Int), 0 ≤ d2 → 0 ≤ r → r < m → Q (.int r) (upd H st (.lst (stL sc i' d2 (c + 1) z'))) := fun r d2 h0 hr0 hr1 =>
      q r _ hr0 hr1 Keep.upd ⟨cs, i', d2, c + 1, z', upd_same, e4 _ _ _ _, h0, hi0', hi', h63, hne⟩ ⟨_, rfl⟩
    -- if state[2] > 0
    refine ⟨_, rfl, st, _, 2, _, rfl, rfl, SqL.of e3, rfl, _, _, rfl, rfl, _, rfl, ?_⟩
    refine ite2 (fun _ => ?_) (fun _ => ?_)
    · refine ⟨_, rfl, st, _, 2, _, rfl, rfl, SqL.of e3, rfl, .inl ⟨_, rfl, _, rfl, _, _, rfl, rfl, by omega, ?_⟩⟩
      refine ⟨_, rfl, st, _, 2, _, rfl, rfl, SqL.of e3, rfl, _, rfl, _, _, rfl, rfl, wide_div (b := 64) hm0 (by omega) (by decide) (by decide), ?_⟩
      refine ⟨_, rfl, st, _, 2, 2, rfl, rfl, e3, rfl, ?_⟩
      rw [upd_upd]
      refine ⟨_, rfl, fin _ _ (Int.ediv_nonneg hd' (Int.le_of_lt hm0)) ?_ ?_⟩
      · rw [Int.fmod_eq_emod_of_nonneg _ (Int.le_of_lt hm0)]; exact Int.emod_nonneg _ (by omega)
      · rw [Int.fmod_eq_emod_of_nonneg _ (Int.le_of_lt hm0)]; exact Int.emod_lt_of_pos _ hm0
    · -- one, two, three
      refine ⟨_, rfl, st, _, 4, _, rfl, rfl, SqL.of e3, rfl, _, rfl, st, _, 3, _, rfl, rfl, SqL.of e3, rfl, _, _, rfl, rfl, .inl ⟨by decide, by decide⟩, _, _, rfl, rfl, _, _, rfl, rfl, _, _, rfl, rfl, .inr ⟨by decide, by decide⟩, .inl ⟨_, rfl, _, _, rfl, rfl, (by show (2147483647 : Int) ≠ 0; decide), ?_⟩⟩
      dsimp only
      generalize hx : Int.fmod ((z' + 7919 * (c + 1) + 1) * 48271) 2147483647 = one
      have o0 : 0 ≤ one ∧ one < 2147483647 := by
        rw [← hx, Int.fmod_eq_emod_of_nonneg _ (by decide)]
        exact ⟨Int.emod_nonneg _ (by decide), Int.emod_lt_of_pos _ (by decide)⟩
      refine ⟨_, rfl, _, rfl, _, _, rfl, rfl, wide_div (b := 64) (by decide) (by decide) (by decide) (by decide), _, _, rfl, rfl, _, _, rfl, rfl, .inl ⟨by omega, by omega⟩, .inl ⟨_, rfl, _, _, rfl, rfl, (by show (2147483647 : Int) ≠ 0; decide), ?_⟩⟩
      dsimp only
      generalize hy : Int.fmod (one * (one / 1009 + 69621)) 2147483647 = two
      have t0 : 0 ≤ two ∧ two < 2147483647 := by
        rw [← hy, Int.fmod_eq_emod_of_nonneg _ (by decide)]
        exact ⟨Int.emod_nonneg _ (by decide), Int.emod_lt_of_pos _ (by decide)⟩
      refine ⟨_, rfl, _, rfl, _, _, rfl, rfl, wide_div (b := 64) (by decide) (by decide) (by decide) (by decide), _, _, rfl, rfl, _, _, rfl, rfl, .inl ⟨by omega, by omega⟩, .inl ⟨_, rfl, _, _, rfl, rfl, (by show (2147483399 : Int) ≠ 0; decide), ?_⟩⟩
      refine ⟨_, rfl, _, _, rfl, rfl, wide_div (b := 64) (by decide) (by decide) (by decide) (by decide), .inl ⟨_, rfl, _, rfl, _, _, rfl, rfl, by omega, ?_⟩⟩
      refine fin _ _ hd' ?_ ?_
      · rw [Int.fmod_eq_emod_of_nonneg _ (Int.le_of_lt hm0)]; exact Int.emod_nonneg _ (by omega)
      · rw [Int.fmod_eq_emod_of_nonneg _ (Int.le_of_lt hm0)]; exact Int.emod_lt_of_pos _ hm0
end
end K41
namespace K41
open PySem PySem.Spec PyProof.Rows L2 Td
/-! ### the letters -/
def abc : Str := "abcdefghijklmnopqrstuvwxyz"
theorem abc_list : abc.cps.toList = List.range' 97 26 := by decide +kernel
theorem abc_len : abc.length ≤ sizeLine := by
  rw [show abc.length = 26 by decide +kernel]; decide
theorem abc_at {i : Int} (h0 : 0 ≤ i) (h1 : i < 26) : atI abc.cps.toList i = some (97 + i.toNat) := by
  have : atI abc.cps.toList ((i.toNat : Nat) : Int) = some (97 + i.toNat) := atI_nat (by
    rw [abc_list, List.getElem?_range' (by omega), Nat.one_mul])
  rwa [show ((i.toNat : Nat) : Int) = i by omega] at this
theorem add_len (z : Str) (c : Nat) : (z ++ (⟨#[c]⟩ : Str)).length = z.length + 1 := by
  show (z.cps ++ #[c]).size = z.cps.size + 1
  simp
theorem add_low {z : Str} {c : Nat} (h : z.cps.toList.all lowc = true) (hc : lowc c = true) : (z ++ (⟨#[c]⟩ : Str)).cps.toList.all lowc = true := by
  show (z.cps ++ #[c]).toList.all lowc = true
  simp [List.all_append] at h ⊢
  exact ⟨h, hc⟩
theorem add_old {z : Str} {c j x : Nat} (h : z.cps[j]? = some x) : (z ++ (⟨#[c]⟩ : Str)).cps[j]? = some x := by
  show (z.cps ++ #[c])[j]? = some x
  have := (Array.getElem?_eq_some_iff.mp h).1
  rw [Array.getElem?_append_left this]; exact h
theorem add_new (z : Str) (c : Nat) : (z ++ (⟨#[c]⟩ : Str)).cps[z.length]? = some c := by
  show (z.cps ++ #[c])[z.cps.size]? = some c
  simp
theorem low_of {i : Int} (h0 : 0 ≤ i) (h1 : i < 26) : lowc (97 + i.toNat) = true := by
  unfold lowc
  simp
  omega
/-- what the names of one drawing have in common: at the place p stands the k-th letter -/
def letK (first k : Nat) : Nat := 97 + (first + 7 * k) % 26
structure NamesAt (p first : Nat) (ns : List Str) : Prop where
  good : ∀ z ∈ ns, isNm z = true
  at_ : ∀ (j : Nat) (z : Str), ns[j]? = some z → z.cps[p]? = some (letK first j)
theorem NamesAt.nodup {p first : Nat} {ns : List Str} (h : NamesAt p first ns) (hl : ns.length ≤ 26) : ns.Nodup := by
  rw [List.Nodup, List.pairwise_iff_getElem]
  intro i j hi hj hij e3
  have e1 := h.at_ i ns[i] (List.getElem?_eq_getElem hi)
  have e2 := h.at_ j ns[j] (List.getElem?_eq_getElem hj)
  rw [e3, e2] at e1
  have := Option.some.inj e1
  unfold letK at this
  omega
theorem NamesAt.snoc {p first : Nat} {ns : List Str} {z : Str} (h : NamesAt p first ns) (hz : isNm z = true) (ha : z.cps[p]? = some (letK first ns.length)) : NamesAt p first (ns ++ [z]) := by
  refine ⟨fun y hy => ?_, fun j y hy => ?_⟩
  · rcases List.mem_append.mp hy with q | q
    · exact h.good y q
    · rw [List.mem_singleton.mp q]; exact hz
  · by_cases hj : j < ns.length
    · rw [List.getElem?_append_left hj] at hy
      exact h.at_ j y hy
    · rw [List.getElem?_append_right (by omega)] at hy
      have : j = ns.length := by
        rcases Nat.lt_or_ge 0 (j - ns.length) with c | c
        · rw [List.getElem?_eq_none (by simp; omega)] at hy; cases hy
        · omega
      subst this
      simp at hy
      rw [← hy]; exact ha
def spNames : Sp := fun vs H Q _ => ∃ (st sc : Addr) (n : Int), vs = [.ref st, .int n] ∧ 0 ≤ n ∧ n ≤ 20 ∧ StOk H st sc ∧
  ∀ (p : Addr) (ns : List Str) (H' : Hp), Keep st H H' → StOk H' st sc → H p = none → p ≠ st → p ≠ sc → H' p = some (.lst (ns.map V.str)) → (ns.length : Int) = n → Names ns → Q (.ref p) H'
theorem StOk.at {H : Hp} {st sc : Addr} (h : StOk H st sc) : ∃ L, H st = some (.lst L) := by
  obtain ⟨cs, i, d, c, s, h1, _⟩ := h
  exact ⟨_, h1⟩
theorem StOk.scat {H : Hp} {st sc : Addr} (h : StOk H st sc) : ∃ L, H sc = some (.lst L) := by
  obtain ⟨cs, i, d, c, s, h1, h2, _⟩ := h
  exact ⟨_, h2⟩
theorem StOk.other {H : Hp} {st sc p : Addr} {o : HO} (h : StOk H st sc) (hp : p ≠ st) (hq : p ≠ sc) : StOk (upd H p o) st sc := by
  obtain ⟨cs, i, d, c, s, h1, h2, r⟩ := h
  exact ⟨cs, i, d, c, s, by rw [upd_ne (Ne.symm hp)]; exact h1, by rw [upd_ne (Ne.symm hq)]; exact h2, r⟩
theorem StOk.ne {H : Hp} {st sc p : Addr} (h : StOk H st sc) (hp : H p = none) : p ≠ st ∧ p ≠ sc := by
  obtain ⟨L, h1⟩ := h.at
  obtain ⟨M, h2⟩ := h.scat
  exact ⟨Ne.symm (ne_of_none h1 hp), Ne.symm (ne_of_none h2 hp)⟩
theorem StOk.new {H : Hp} {st sc p : Addr} {o : HO} (h : StOk H st sc) (hp : H p = none) : StOk (upd H p o) st sc :=
  h.other (h.ne hp).1 (h.ne hp).2
section
variable {P : Program} {w : World} {K : PySem.W.Frag} {mg : Str → Option Value} {base : Heap}
theorem ok_state (T : Tops w K mg) : FnOk P w K mg base CX0 1 T.a__law_state T.d__law_state ["_law_script"] (spState K) := by
  refine T.F__law_state.ok sc_law_state (fun vs H Q E h => ?_) (fun cdv A outer s H vs Q E hr h => ?_)
  · obtain ⟨a, ns, rfl, _⟩ := h
    rfl
  obtain ⟨a, ns, rfl, hS, hl, q⟩ := h
  refine ⟨_, (pss_one (ps_ret (pe_lst (pa_cons (pe_callTy call_list_of rfl T.z_list (by decide +kernel) (pa_cons (pe_slice sl_list (pv 0) po_none (po_some pe_int)) pa_nil)) (pa_cons pe_int (pa_cons pe_int (pa_cons pe_int (pa_cons pe_int pa_nil)))))))), ?_⟩
  have hcut : cutV (ns.map V.int) none (some 63) = ns.map V.int := by
    unfold cutV
    rw [HT.sIx_none, show HT.sIx (ns.map V.int).length (ns.map V.int).length (some 63) = min 63 (ns.map V.int).length from HT.sIx_nat _ _ 63]
    rw [List.drop_zero, List.take_of_length_le (by rw [List.length_map]; omega)]
  refine ⟨_, rfl, 63, rfl, a, _, rfl, hS, fun p hp => ⟨p, _, rfl, .inl (SqL.of upd_same), fun l hl2 => ⟨by show 5 ≤ sizeLine; decide, fun st hst => ?_⟩⟩⟩
  rw [hcut] at hl2 hst ⊢
  have npl : p ≠ l := fun e => by rw [e, upd_same] at hl2; cases hl2
  have hl0 : H l = none := by rw [upd_ne (Ne.symm npl)] at hl2; exact hl2
  have nls : l ≠ st := fun e => by rw [e, upd_same] at hst; cases hst
  have hst2 : H st = none := by
    rw [upd_ne (Ne.symm nls)] at hst
    by_cases c : st = p
    · rw [c, upd_same] at hst; cases hst
    · rw [upd_ne c] at hst; exact hst
  refine q st l _ (fun b o e => ?_) hst2 hl0 ⟨ns, 0, 0, 0, 1, upd_same, by rw [upd_ne nls, upd_same], by decide, by decide, by omega, hl, nls⟩
  rw [upd_ne (ne_of_none e hst2), upd_ne (ne_of_none e hl0), upd_ne (ne_of_none e hp)]
  exact e
theorem ok_names (T : Tops w K mg) (G__law_draw : FnOk P w K mg base CX0 1 T.a__law_draw T.d__law_draw ["_law_state_here", "_law_many_here"] spDraw) :
    FnOk P w K mg base CX0 2 T.a__law_names T.d__law_names ["_law_state_here", "_law_many_here"] spNames := by
  refine T.F__law_names.ok sc_law_names (fun vs H Q E h => ?_) (fun cdv A outer s H vs Q E hr h => ?_)
  · obtain ⟨st, sc, m, rfl, _⟩ := h
    rfl
  obtain ⟨st, sc, n, rfl, hn0, hn1, hst, q⟩ := h
  refine ⟨_, (pss_cons (ps_set (i := 2) sc_law_names.nd rfl (Or.inl rfl) (pe_call G__law_draw (hr.mono (by omega)) rfl T.m__law_draw T.F__law_draw.kp T.b__law_draw .nil pass0 (pa_cons (pv 0) (pa_cons pe_int pa_nil))))
    (pss_cons (ps_set (i := 3) sc_law_names.nd rfl (Or.inl rfl) (pe_call G__law_draw (hr.mono (by omega)) rfl T.m__law_draw T.F__law_draw.kp T.b__law_draw .nil pass0 (pa_cons (pv 0) (pa_cons pe_int pa_nil))))
    (pss_cons (ps_set (i := 4) sc_law_names.nd rfl (Or.inl rfl) (pe_call G__law_draw (hr.mono (by omega)) rfl T.m__law_draw T.F__law_draw.kp T.b__law_draw .nil pass0 (pa_cons (pv 0) (pa_cons pe_int pa_nil))))
    (pss_cons (ps_set (i := 5) sc_law_names.nd rfl (Or.inl rfl) (pe_call G__law_draw (hr.mono (by omega)) rfl T.m__law_draw T.F__law_draw.kp T.b__law_draw .nil pass0 (pa_cons (pv 0) (pa_cons (pe_op op_pow pe_int pe_int) pa_nil))))
    (pss_cons (ps_set (i := 6) sc_law_names.nd rfl (Or.inl rfl) pe_str)
    (pss_cons (ps_set (i := 7) sc_law_names.nd rfl (Or.inl rfl) (pe_lst pa_nil))
    (pss_cons (ps_for PassesOwn.never rfl (pi_range1 rfl T.z_range (pa_cons (pv 1) pa_nil)) (pg_name (i := 8) sc_law_names.nd rfl (Or.inl rfl)) (pss_cons (ps_set (i := 9) sc_law_names.nd rfl (Or.inl rfl) (pv 5))
    (pss_cons (ps_set (i := 10) sc_law_names.nd rfl (Or.inl rfl) (pe_op op_add (pv 2) pe_int))
    (C8.pss_cut (ps_if (pt_cmpR op_eq (pv 4) pe_int (nomark _)) (pss_cons (ps_set (i := 9) sc_law_names.nd rfl (Or.inl rfl) (pe_call G__law_draw (hr.mono (by omega)) rfl T.m__law_draw T.F__law_draw.kp T.b__law_draw .nil pass0 (pa_cons (pv 0) (pa_cons (pe_op op_pow pe_int pe_int) pa_nil))))
    (pss_one (ps_set (i := 10) sc_law_names.nd rfl (Or.inl rfl) (pe_op op_add (pe_op op_add (pv 2) pe_int) (pe_call G__law_draw (hr.mono (by omega)) rfl T.m__law_draw T.F__law_draw.kp T.b__law_draw .nil pass0 (pa_cons (pv 0) (pa_cons (pe_op op_sub pe_int (pv 2)) pa_nil))))))) pss_nil)
    (pss_cons (ps_set (i := 11) sc_law_names.nd rfl (Or.inl rfl) pe_str)
    (pss_cons (ps_for PassesOwn.never rfl (pi_range1 rfl T.z_range (pa_cons (pv 10) pa_nil)) (pg_name (i := 12) sc_law_names.nd rfl (Or.inl rfl)) (pss_one (ps_if (pt_cmpR op_eq (pv 12) (pv 2) (nomark _)) (pss_one (ps_set (i := 11) sc_law_names.nd rfl (Or.inl rfl) (pe_op op_add_str (pv 11) (pe_ix ix_str (pv 6) (pe_op op_modN (pe_callTy call_int1 rfl T.z_int (by decide +kernel) (pa_cons (pe_op op_add (pv 3) (pe_op op_mul pe_int (pv 8))) pa_nil)) pe_int) (fun _ _ => rfl))))) (pss_cons (ps_set (i := 11) sc_law_names.nd rfl (Or.inl rfl) (pe_op op_add_str (pv 11) (pe_ix ix_str (pv 6) (pe_op op_modN (pe_callTy call_int1 rfl T.z_int (by decide +kernel) (pa_cons (pv 9) pa_nil)) pe_int) (fun _ _ => rfl))))
    (pss_one (ps_set (i := 9) sc_law_names.nd rfl (Or.inl rfl) (pe_op op_fdivW (pv 9) pe_int)))))))
    (pss_one (ps_expr (pe_bm PySem.F.plainAttrs_list PySem.F.slot_list_append PySem.F.type_list_append mt_append (pv 7) (pa_cons (pv 11) pa_nil))))))))))
    (pss_one (ps_ret (pv 7)))))))))), ?_⟩
  refine ⟨_, rfl, st, sc, 8, rfl, by decide, by decide, hst, fun pl H1 pl0 pl1 k1 s1 _ => ?_⟩
  refine ⟨_, rfl, st, sc, 26, rfl, by decide, by decide, s1, fun fi H2 fi0 fi1 k2 s2 _ => ?_⟩
  refine ⟨_, rfl, st, sc, 2, rfl, by decide, by decide, s2, fun sh H3 sh0 sh1 k3 s3 _ => ?_⟩
  refine ⟨_, rfl, _, _, rfl, rfl, ⟨by decide, by decide, by decide⟩, st, sc, _, rfl, by decide, by decide, s3, fun ba H4 ba0 ba1 k4 s4 _ => ?_⟩
  have k04 : Keep st H H4 := k1.trans (k2.trans (k3.trans k4))
  refine ⟨Nat.zero_le _, fun p hp => ?_⟩
  obtain ⟨nps, npc⟩ := s4.ne hp
  have hp0 : H p = none := k04.free nps hp
  refine ⟨_, rfl, n, rfl, by omega, by omega, for_range (lo := 0) (n := n.toNat) (fun i σ H' => ∃ (v8 v9 v10 v11 v12 : Option V) (ns : List Str),
    σ = [some (.ref st), some (.int n), some (.int pl), some (.int fi), some (.int sh), some (.int ba), some (.str abc), some (.ref p), v8, v9, v10, v11, v12] ∧
    Keep st H H' ∧ StOk H' st sc ∧ H' p = some (.lst (ns.map V.str)) ∧ ns.length = i ∧ NamesAt pl.toNat fi.toNat ns)
    ⟨none, none, none, none, none, [], rfl, k04.trans (Keep.new hp), s4.new hp, upd_same, rfl, ⟨fun z h => (List.not_mem_nil h).elim, fun j z h => by simp at h⟩⟩ ?_ ?_⟩
  · rintro i σ H' hi ⟨v8, v9, v10, v11, v12, ns, rfl, kH, sH, hpH, hlen, hN⟩
    refine ⟨_, rfl, _, rfl, _, _, rfl, rfl, ?_⟩
    refine ⟨fun σ' H'' => ∃ (o sz : Int), σ' = [some (.ref st), some (.int n), some (.int pl), some (.int fi), some (.int sh), some (.int ba), some (.str abc), some (.ref p), some (.int (0 + i)), some (.int o), some (.int sz), v11, v12] ∧
      Keep st H H'' ∧ StOk H'' st sc ∧ H'' p = some (.lst (ns.map V.str)) ∧ 0 ≤ o ∧ pl + 1 ≤ sz ∧ sz ≤ 8, ?_, ?_⟩
    · refine ⟨_, rfl, rfl, _, rfl, ?_⟩
      refine ite2 (fun _ => ?_) (fun _ => ⟨ba, pl + 1, rfl, kH, sH, hpH, ba0, by omega, by omega⟩)
      refine ⟨_, rfl, _, _, rfl, rfl, ⟨by decide, by decide, by decide⟩, st, sc, _, rfl, by decide, by decide, sH, fun o H5 o0 o1 k5 s5 _ => ?_⟩
      refine ⟨_, rfl, _, _, rfl, rfl, _, rfl, _, rfl, _, _, rfl, rfl, st, sc, _, rfl, by omega, by omega, s5, fun sz H6 z0 z1 k6 s6 _ => ⟨_, _, rfl, rfl, ?_⟩⟩
      exact ⟨o, _, rfl, kH.trans (k5.trans k6), s6, k6 _ _ nps (k5 _ _ nps hpH), o0, by omega, by omega⟩
    · rintro σ' H'' ⟨o, sz, rfl, kJ, sJ, hpJ, o0, sz0, sz1⟩
      -- name = ''; for at in range(size)
      refine ⟨_, rfl, sz, rfl, by omega, by omega, for_range (lo := 0) (n := sz.toNat) (fun j σ H5 => ∃ (o : Int) (z : Str) (v12 : Option V),
        σ = [some (.ref st), some (.int n), some (.int pl), some (.int fi), some (.int sh), some (.int ba), some (.str abc), some (.ref p), some (.int (0 + i)), some (.int o), some (.int sz), some (.str z), v12] ∧
        H5 = H'' ∧ 0 ≤ o ∧ z.length = j ∧ z.cps.toList.all lowc = true ∧ (pl.toNat < j → z.cps[pl.toNat]? = some (letK fi.toNat i)))
        ⟨o, "", v12, rfl, rfl, o0, by decide +kernel, by decide +kernel, fun h => by omega⟩ ?_ ?_⟩
      · rintro j σ H5 hj ⟨o, z, v12, rfl, rfl, o0, zl, za, zp⟩
        have zsz : z.length + 1 ≤ sizeLine := Nat.le_of_lt (small1000 (by omega))
        refine ⟨_, rfl, _, rfl, rfl, _, rfl, ?_⟩
        refine ite2 (fun c => ?_) (fun c => ?_)
        · have c' : (V.int (0 + (j : Int))) = V.int pl := of_decide_eq_true c
          have cj : (0 : Int) + (j : Int) = pl := by injection c'
          have m0 : 0 ≤ Int.fmod (fi + 7 * (0 + (i : Int))) 26 ∧ Int.fmod (fi + 7 * (0 + (i : Int))) 26 < 26 := by
            rw [Int.fmod_eq_emod_of_nonneg _ (by decide)]
            exact ⟨Int.emod_nonneg _ (by decide), Int.emod_lt_of_pos _ (by decide)⟩
          have mk : (Int.fmod (fi + 7 * (0 + (i : Int))) 26).toNat = (fi.toNat + 7 * i) % 26 := by
            rw [Int.fmod_eq_emod_of_nonneg _ (by decide)]
            omega
          refine ⟨_, rfl, _, rfl, _, rfl, _, rfl, _, _, rfl, rfl, .inl ⟨by decide, by decide⟩, _, _, rfl, rfl, .inl ⟨_, rfl, _, _, rfl, rfl, (by show (26 : Int) ≠ 0; decide), abc, _, _, rfl, rfl, abc_len, abc_at m0.1 m0.2, _, _, rfl, rfl, zsz, ?_⟩⟩
          refine ⟨o, _, _, rfl, rfl, o0, by rw [add_len, zl], add_low za (low_of m0.1 m0.2), fun _ => ?_⟩
          have hz : z.length = pl.toNat := by omega
          have e := add_new z (97 + (Int.fmod (fi + 7 * (0 + (i : Int))) 26).toNat)
          rw [hz, mk] at e
          unfold letK
          rw [mk]
          exact e
        · have m0 : 0 ≤ Int.fmod o 26 ∧ Int.fmod o 26 < 26 := by
            rw [Int.fmod_eq_emod_of_nonneg _ (by decide)]
            exact ⟨Int.emod_nonneg _ (by decide), Int.emod_lt_of_pos _ (by decide)⟩
          refine ⟨_, rfl, _, rfl, _, rfl, .inl ⟨_, rfl, _, _, rfl, rfl, (by show (26 : Int) ≠ 0; decide), abc, _, _, rfl, rfl, abc_len, abc_at m0.1 m0.2, _, _, rfl, rfl, zsz, ?_⟩⟩
          refine ⟨_, rfl, _, _, rfl, rfl, wide_div (b := 64) (by decide) (by decide) (by decide) (by decide), ?_⟩
          refine ⟨o / 26, _, _, rfl, rfl, Int.ediv_nonneg o0 (by decide), by rw [add_len, zl], add_low za (low_of m0.1 m0.2), fun hlt => ?_⟩
          have hne : ¬ (V.int (0 + (j : Int)) = V.int pl) := of_decide_eq_false (Bool.eq_false_iff.mpr c)
          have hne2 : ¬ ((0 : Int) + (j : Int) = pl) := fun e => hne (by rw [e])
          exact add_old (zp (by omega))
      · rintro σ H5 ⟨o, z, v12, rfl, rfl, o0, zl, za, zp⟩
        have hns : (ns.map V.str).length < sizeLine := small1000 (by rw [List.length_map]; omega)
        refine ⟨_, rfl, .inl ⟨rfl, _, SqL.of hpJ⟩, _, rfl, p, _, _, rfl, rfl, hpJ, hns, ?_⟩
        have hnm : isNm z = true := by
          unfold isNm
          rw [za, zl]
          simp
          omega
        refine ⟨_, _, _, _, _, ns ++ [z], rfl, kJ.own hp0, sJ.other nps npc, ?_, ?_, ?_⟩
        · rw [upd_same, List.map_append]; rfl
        · rw [List.length_append, hlen]; rfl
        · exact hN.snoc hnm (by rw [hlen]; exact zp (by omega))
  · rintro σ H' ⟨v8, v9, v10, v11, v12, ns, rfl, kH, sH, hpH, hlen, hN⟩
    refine ⟨_, rfl, q p ns H' kH sH hp0 nps npc hpH (by omega) ⟨hN.good, hN.nodup (by omega)⟩⟩
end
end K41
namespace K41
open PySem PySem.Spec PyProof.Rows L2 Td
/-- all rows, counted at all depths; n: how deep it may still go -/
def spMany (K : PySem.W.Frag) (n : Nat) : Sp := fun vs H Q _ => ∃ (v : V) (rs : List Td.Row) (S : Sc) (dep : Nat),
  vs = [v] ∧ Dp K H v (.tuple (rowsD rs)) ∧ okRs S dep rs ∧ dep ≤ 4 ∧ 5 ≤ dep + n ∧ Q (.int (cnts rs : Nat)) H
section
variable {P : Program} {w : World} {K : PySem.W.Frag} {mg : Str → Option Value} {base : Heap}
theorem ok_many1 (T : Tops w K mg) {n : Nat} (G__law_many : FnOk P w K mg base CX0 n T.a__law_many T.d__law_many ["_law_rows_here"] (spMany K n)) :
    FnOk P w K mg base CX0 (n + 1) T.a__law_many T.d__law_many ["_law_rows_here"] (spMany K (n + 1)) := by
  refine T.F__law_many.ok sc_law_many (fun vs H Q E h => ?_) (fun cdv A outer s H vs Q E hr h => ?_)
  · obtain ⟨v, rs, S, dep, rfl, _⟩ := h
    rfl
  obtain ⟨v, rs, S, dep, rfl, hD, ok, hdep, hn, q⟩ := h
  obtain ⟨a, xs, rfl, hS, hl, hx⟩ := rows_at hD
  refine ⟨_, (pss_cons (ps_set (i := 1) sc_law_many.nd rfl (Or.inl rfl) (pe_callB call_len rfl T.z_len PySem.boot_len (pa_cons (pv 0) pa_nil)))
    (pss_cons (ps_for PassesOwn.never rfl (pi_tup (pv 0)) (pg_name (i := 2) sc_law_many.nd rfl (Or.inl rfl)) (pss_one (ps_if (pt_cmpR op_eq (pe_ix ix_tup (pv 2) pe_int (fun _ _ => rfl)) pe_str (nomark _)) (pss_one (ps_aug (i := 1) sc_law_many.nd rfl (Or.inl rfl) (pe_op op_add (pe_call G__law_many (hr.mono (by omega)) rfl T.m__law_many T.F__law_many.kp T.b__law_many .nil pass0 (pa_cons (pe_ix ix_tup (pv 2) pe_int (fun _ _ => rfl)) pa_nil)) (pe_call G__law_many (hr.mono (by omega)) rfl T.m__law_many T.F__law_many.kp T.b__law_many .nil pass0 (pa_cons (pe_ix ix_tup (pv 2) pe_int (fun _ _ => rfl)) pa_nil))) ip_add)) pss_nil)))
    (pss_one (ps_ret (pv 1))))), ?_⟩
  refine ⟨_, rfl, _, _, rfl, .inr ⟨_, hS, rfl⟩, ?_⟩
  refine ⟨_, rfl, a, rfl, ⟨_, hS⟩, for_tup (K := K) (a := a) (xs := xs) (fun i σ H' => ∃ (v2 : Option V), H' = H ∧
    σ = [some (.ref a), some (.int ((cnts (rs.take i) + (rs.length - i) : Nat) : Int)), v2])
    ⟨none, rfl, ?_⟩ (fun i σ H' _ ⟨_, e, _⟩ => by rw [e]; exact hS) ?_ ?_⟩
  · show [some (V.ref a), some (V.int (xs.length : Nat)), none] = _
    rw [hl]
    simp [cnts]
  · rintro i x σ H' hi ⟨v2, rfl, rfl⟩
    obtain ⟨r, hr2, hDr⟩ := hx i x hi
    have hil : i < rs.length := (List.getElem?_eq_some_iff.mp hr2).1
    have okr := okRs_get ok hr2
    have step := cnts_take hr2
    have hp := cnt_pos r
    cases hite : isIte r with
    | false =>
      obtain ⟨ar, ys, rfl, hSr, h0⟩ := row_at hDr
      refine ⟨_, rfl, ar, _, 0, _, rfl, rfl, hSr, atI_nat (j := 0) h0, rfl, _, rfl, ?_⟩
      refine if_false_of ((tag_if r).trans hite) ⟨some (.ref ar), rfl, ?_⟩
      have hc := cnt_flat hite
      have e : cnts (rs.take i) + (rs.length - i) = cnts (rs.take (i + 1)) + (rs.length - (i + 1)) := by omega
      rw [← e]; rfl
    | true =>
      cases r with
      | ite sl wd y n' =>
        obtain ⟨ar, vy, vn, rfl, hSr, hy, hn'⟩ := ite_at hDr
        unfold okR at okr
        obtain ⟨hd3, _, _, oy, on⟩ := okr
        refine ⟨_, rfl, ar, _, 0, _, rfl, rfl, hSr, rfl, rfl, _, rfl, ?_⟩
        refine if_true_of (by decide +kernel) ?_
        refine ⟨_, rfl, _, rfl, ar, _, 3, _, rfl, rfl, hSr, rfl, vy, y, S, dep + 1, rfl, hy, oy, by omega, by omega, ?_⟩
        refine ⟨_, rfl, ar, _, 4, _, rfl, rfl, hSr, rfl, vn, n', S, dep + 1, rfl, hn', on, by omega, by omega, ?_⟩
        refine ⟨_, _, rfl, rfl, _, _, rfl, rfl, some (.ref ar), rfl, ?_⟩
        have ec : Td.cnt (.ite sl wd y n') = 1 + cnts y + cnts n' := by unfold Td.cnt; rfl
        have e : ((cnts (rs.take i) + (rs.length - i) : Nat) : Int) + ((cnts y : Nat) + (cnts n' : Nat)) = ((cnts (rs.take (i + 1)) + (rs.length - (i + 1)) : Nat) : Int) := by omega
        rw [← e]; rfl
      | _ => cases hite
  · rintro σ H' ⟨v2, rfl, rfl⟩
    refine ⟨_, rfl, ?_⟩
    rw [hl, List.take_length, Nat.sub_self, Nat.add_zero]
    exact q
theorem ok_many (T : Tops w K mg) : ∀ n, FnOk P w K mg base CX0 n T.a__law_many T.d__law_many ["_law_rows_here"] (spMany K n)
  | 0 => by
    have no : ∀ vs H Q E, ¬ spMany K 0 vs H Q E := fun vs H Q E h => by
      obtain ⟨_, _, _, dep, _, _, _, h1, h2, _⟩ := h
      omega
    exact ⟨fun vs H Q E h => absurd h (no vs H Q E), fun A outer s H args us vs Q E _ _ _ _ h => absurd h (no vs H Q E)⟩
  | n + 1 => ok_many1 T (ok_many T n)
end
end K41
namespace K41
open PySem PySem.Spec PyProof.Rows L2 Td
/-- the dict that says what a body may be, at d -/
structure ShapeAt (K : PySem.W.Frag) (st : Addr) (H : Hp) (d : Addr) (S : Sc) (slots : List Str) : Prop where
  ex : ∃ (kvs : List (Key × V)) (aw asl ac aso : Addr) (pk wr : Bool),
    H d = some (.dK kvs) ∧ kvs.length ≤ 100 ∧
    valV kvs (.inr "words") = some (.ref aw) ∧ SqT K H aw (S.words.map V.str) ∧ aw ≠ st ∧
    valV kvs (.inr "slots") = some (.ref asl) ∧ SqL K H asl (slots.map V.str) ∧ asl ≠ st ∧
    valV kvs (.inr "cells") = some (.ref ac) ∧ SqL K H ac (S.readable.map V.str) ∧ ac ≠ st ∧
    valV kvs (.inr "sources") = some (.ref aso) ∧ SqT K H aso (S.sources.map V.str) ∧ aso ≠ st ∧
    valV kvs (.inr "kind") = some (.str (if S.eff then "effects" else "derived")) ∧
    valV kvs (.inr "peeks") = some (.bl pk) ∧ valV kvs (.inr "writes") = some (.bl wr) ∧ (pk = true → S.eff = true) ∧ (wr = true → S.eff = true)
  ne : d ≠ st
  w0 : S.words ≠ []
  s0 : slots ≠ []
  c0 : S.readable ≠ []
  o0 : S.sources ≠ []
  small : S.words.length ≤ 100 ∧ slots.length ≤ 100 ∧ S.readable.length ≤ 100 ∧ S.sources.length ≤ 100
  good : ∀ z ∈ slots, isNm z = true
section
variable {K : PySem.W.Frag} {H H' : Hp} {st sc d : Addr} {S : Sc} {slots : List Str}
theorem ShapeAt.keep (h : ShapeAt K st H d S slots) (k : Keep st H H') : ShapeAt K st H' d S slots := by
  obtain ⟨kvs, aw, asl, ac, aso, pk, wr, e0, e00, e1, e2, e3, e4, e5, e6, e7, e8, e9, e10, e11, e12, r⟩ := h.ex
  exact ⟨⟨kvs, aw, asl, ac, aso, pk, wr, k _ _ h.ne e0, e00, e1, SqT.keep k e3 e2, e3, e4, SqL.keep k e6 e5, e6, e7, SqL.keep k e9 e8, e9, e10, SqT.keep k e12 e11, e12, r⟩, h.ne, h.w0, h.s0, h.c0, h.o0, h.small, h.good⟩
theorem dget_of {a : Addr} {kvs : List (Key × V)} {z : Str} {v : V} (e : H a = some (.dK kvs)) (h : valV kvs (.inr z) = some v) : DGet H a (.str z) (some v) := by
  rw [← h]; exact DGet.k (k := Sum.inr z) e
/-- an item, drawn -/
theorem pick {xs : List Str} {r : Int} (h0 : 0 ≤ r) (h1 : r < (xs.map V.str).length) : ∃ z ∈ xs, atI (xs.map V.str) r = some (.str z) := by
  rw [List.length_map] at h1
  have hl : r.toNat < xs.length := by omega
  refine ⟨xs[r.toNat], List.getElem_mem hl, ?_⟩
  have : atI (xs.map V.str) ((r.toNat : Nat) : Int) = some (V.str xs[r.toNat]) := atI_nat (by rw [List.getElem?_map, List.getElem?_eq_getElem hl]; rfl)
  rwa [show ((r.toNat : Nat) : Int) = r by omega] at this
def rLen (K : PySem.W.Frag) : List V → Hp → VK → Prop := fun xs H Q => ∃ x n, xs = [x] ∧ LenV K x H n ∧ Q (.int n) H
def tPick (K : PySem.W.Frag) (r : R2) (key : Str) : TE := tOp r (tDGet (tVar 1) (tC (.str key)))
  (tCall spDraw [] E0 (tCons (tVar 0) (tCons (tCB (rLen K) (tCons (tDGet (tVar 1) (tC (.str key))) tNil)) tNil)))
theorem pick_l {σ : L2.St} {Q : VK} {key : Str} {kvs : List (Key × V)} {a : Addr} {xs : List Str} (h0 : σ[0]? = some (some (.ref st))) (h1 : σ[1]? = some (some (.ref d)))
    (hd : H d = some (.dK kvs)) (nd : d ≠ st) (hv : valV kvs (.inr key) = some (.ref a)) (hS : SqL K H a (xs.map V.str)) (na : a ≠ st) (hx : xs ≠ []) (hl : xs.length ≤ 100) (ok : StOk H st sc)
    (q : ∀ z ∈ xs, ∀ H', Keep st H H' → StOk H' st sc → Q (.str z) H') : tPick K (rIxL K) key σ H Q := by
  have hp : 0 < xs.length := List.length_pos_iff.mpr hx
  refine ⟨_, h1, d, _, rfl, dget_of hd hv, _, h0, _, h1, d, _, rfl, dget_of hd hv, _, (xs.map V.str).length, rfl, .inl ⟨_, hS, rfl⟩, st, sc, _, rfl, ?_, ?_, ok, fun r H' r0 r1 k o _ => ?_⟩
  · rw [List.length_map]; omega
  · rw [List.length_map]; omega
  · obtain ⟨z, hz, e⟩ := pick r0 r1
    exact ⟨a, _, r, _, rfl, rfl, SqL.keep k na hS, e, q z hz H' k o⟩
theorem pick_t {σ : L2.St} {Q : VK} {key : Str} {kvs : List (Key × V)} {a : Addr} {xs : List Str} (h0 : σ[0]? = some (some (.ref st))) (h1 : σ[1]? = some (some (.ref d)))
    (hd : H d = some (.dK kvs)) (nd : d ≠ st) (hv : valV kvs (.inr key) = some (.ref a)) (hS : SqT K H a (xs.map V.str)) (na : a ≠ st) (hx : xs ≠ []) (hl : xs.length ≤ 100) (ok : StOk H st sc)
    (q : ∀ z ∈ xs, ∀ H', Keep st H H' → StOk H' st sc → Q (.str z) H') : tPick K (rIxT K) key σ H Q := by
  have hp : 0 < xs.length := List.length_pos_iff.mpr hx
  refine ⟨_, h1, d, _, rfl, dget_of hd hv, _, h0, _, h1, d, _, rfl, dget_of hd hv, _, (xs.map V.str).length, rfl, .inr ⟨_, hS, rfl⟩, st, sc, _, rfl, ?_, ?_, ok, fun r H' r0 r1 k o _ => ?_⟩
  · rw [List.length_map]; omega
  · rw [List.length_map]; omega
  · obtain ⟨z, hz, e⟩ := pick r0 r1
    exact ⟨a, _, r, _, rfl, rfl, SqT.keep k na hS, e, q z hz H' k o⟩
end
def spRow (K : PySem.W.Frag) : Sp := fun vs H Q _ => ∃ (st sc d : Addr) (S : Sc) (slots : List Str), vs = [.ref st, .ref d] ∧ StOk H st sc ∧ ShapeAt K st H d S slots ∧
  ∀ (v : V) (r : Td.Row) (H' : Hp), Keep st H H' → StOk H' st sc → (∀ dep, okR S dep r) → isIte r = false → Tn K H' v (rowD r) → Q v H'
section
variable {P : Program} {w : World} {K : PySem.W.Frag} {mg : Str → Option Value} {base : Heap}
theorem ok_row (T : Tops w K mg) (G__law_draw : FnOk P w K mg base CX0 1 T.a__law_draw T.d__law_draw ["_law_state_here", "_law_many_here"] spDraw) :
    FnOk P w K mg base CX0 2 T.a__law_row T.d__law_row ["_law_state_here", "_law_shape"] (spRow K) := by
  refine T.F__law_row.ok sc_law_row (fun vs H Q E h => ?_) (fun cdv A outer s H vs Q E hr h => ?_)
  · obtain ⟨st, sc, d, S, slots, rfl, _⟩ := h
    rfl
  obtain ⟨st, sc, d, S, slots, rfl, ok, sh, q⟩ := h
  refine ⟨_, (pss_cons (ps_set (i := 2) sc_law_row.nd rfl (Or.inl rfl) (pe_call G__law_draw (hr.mono (by omega)) rfl T.m__law_draw T.F__law_draw.kp T.b__law_draw .nil pass0 (pa_cons (pv 0) (pa_cons pe_int pa_nil))))
    (pss_cons (ps_set (i := 3) sc_law_row.nd rfl (Or.inl rfl) (pe_ix ix_list (pe_dget (hu_of hr) (pv 1) pe_str (fun _ _ => rfl)) (pe_call G__law_draw (hr.mono (by omega)) rfl T.m__law_draw T.F__law_draw.kp T.b__law_draw .nil pass0 (pa_cons (pv 0) (pa_cons (pe_callB call_len rfl T.z_len PySem.boot_len (pa_cons (pe_dget (hu_of hr) (pv 1) pe_str (fun _ _ => rfl)) pa_nil)) pa_nil))) (fun _ _ => rfl)))
    (pss_cons (ps_if (pt_cmpR op_eq (pv 2) pe_int (nomark _)) (pss_one (ps_ret (pe_tup (pa_cons pe_str (pa_cons (pv 3) (pa_cons (pe_ix ix_tup (pe_dget (hu_of hr) (pv 1) pe_str (fun _ _ => rfl)) (pe_call G__law_draw (hr.mono (by omega)) rfl T.m__law_draw T.F__law_draw.kp T.b__law_draw .nil pass0 (pa_cons (pv 0) (pa_cons (pe_callB call_len rfl T.z_len PySem.boot_len (pa_cons (pe_dget (hu_of hr) (pv 1) pe_str (fun _ _ => rfl)) pa_nil)) pa_nil))) (fun _ _ => rfl)) pa_nil)))))) pss_nil)
    (C8.pss_cut (ps_if (PW.pt (pw_and (pt_cmpR op_eq (pv 2) pe_int (nomark _)) (pw_and1 (pt_cmpR op_eq (pe_dget (hu_of hr) (pv 1) pe_str (fun _ _ => rfl)) pe_str (nomark _))))) (pss_one (ps_ret (pe_tup (pa_cons pe_str (pa_cons (pv 3) pa_nil))))) pss_nil)
    (pss_cons (ps_if (pt_cmpR op_eq (pv 2) pe_int (nomark _)) (pss_one (ps_ret (pe_tup (pa_cons pe_str (pa_cons (pv 3) pa_nil))))) pss_nil)
    (C8.pss_cut (ps_if (PW.pt (pw_and (pt_cmpR op_eq (pv 2) pe_int (nomark _)) (pw_and1 (pt_val (pe_dget (hu_of hr) (pv 1) pe_str (fun _ _ => rfl)))))) (pss_one (ps_ret (pe_tup (pa_cons pe_str (pa_cons (pe_ix ix_tup (pe_dget (hu_of hr) (pv 1) pe_str (fun _ _ => rfl)) (pe_call G__law_draw (hr.mono (by omega)) rfl T.m__law_draw T.F__law_draw.kp T.b__law_draw .nil pass0 (pa_cons (pv 0) (pa_cons (pe_callB call_len rfl T.z_len PySem.boot_len (pa_cons (pe_dget (hu_of hr) (pv 1) pe_str (fun _ _ => rfl)) pa_nil)) pa_nil))) (fun _ _ => rfl)) (pa_cons (pv 3) pa_nil)))))) pss_nil)
    (pss_cons (ps_set (i := 4) sc_law_row.nd rfl (Or.inl rfl) (pe_ix ix_list (pe_dget (hu_of hr) (pv 1) pe_str (fun _ _ => rfl)) (pe_call G__law_draw (hr.mono (by omega)) rfl T.m__law_draw T.F__law_draw.kp T.b__law_draw .nil pass0 (pa_cons (pv 0) (pa_cons (pe_callB call_len rfl T.z_len PySem.boot_len (pa_cons (pe_dget (hu_of hr) (pv 1) pe_str (fun _ _ => rfl)) pa_nil)) pa_nil))) (fun _ _ => rfl)))
    (C8.pss_cut (ps_if (PW.pt (pw_and (pt_cmpR op_eq (pv 2) pe_int (nomark _)) (pw_and1 (pt_val (pe_dget (hu_of hr) (pv 1) pe_str (fun _ _ => rfl)))))) (pss_one (ps_ret (pe_tup (pa_cons pe_str (pa_cons (pv 4) (pa_cons (pv 3) pa_nil)))))) pss_nil)
    (pss_one (ps_ret (pe_tup (pa_cons pe_str (pa_cons (pv 4) (pa_cons (pv 3) pa_nil)))))))))))))), ?_⟩
  -- kind, slot
  refine ⟨_, rfl, st, sc, 6, rfl, by decide, by decide, ok, fun kd H1 kd0 kd1 k1 o1 _ => ?_⟩
  have sh1 := sh.keep k1
  obtain ⟨kvs, aw, asl, ac, aso, pk, wr, e0, e00, e1, e2, e3, e4, e5, e6, e7, e8, e9, e10, e11, e12, e13, e14, e15, e16, e17⟩ := sh1.ex
  refine pick_l (key := "slots") rfl rfl e0 sh1.ne e4 e5 e6 sh1.s0 sh1.small.2.1 o1 fun sl hsl H2 k2 o2 => ?_
  have hsl' := sh.good sl hsl
  have k12 := k1.trans k2
  have sh2 := sh1.keep k2
  obtain ⟨kvs, aw, asl, ac, aso, pk, wr, e0, e00, e1, e2, e3, e4, e5, e6, e7, e8, e9, e10, e11, e12, e13, e14, e15, e16, e17⟩ := sh2.ex
  have give : ∀ (zs : List Str) (r : Td.Row), zs.length ≤ 5 → rowD r = .tuple (zs.map PyData.str) → (∀ dep, okR S dep r) → isIte r = false →
      ∀ H3, Keep st H H3 → StOk H3 st sc → (zs.map V.str).length ≤ sizeLine ∧ ∀ p, H3 p = none → Q (.ref p) (upd H3 p (.tup (zs.map V.str))) := fun zs r hz hr ho hi H3 k3 o3 =>
    ⟨Nat.le_of_lt (small1000 (by rw [List.length_map]; omega)), fun p hp => q _ r _ (k3.trans (Keep.new hp)) (o3.new hp) ho hi (by rw [hr]; exact Tn.new (TnAll.strs zs) hp)⟩
  -- kind == 0: put
  refine ⟨_, rfl, rfl, _, rfl, ?_⟩
  refine ite2 (fun _ => ?_) (fun _ => ?_)
  · refine ⟨_, rfl, pick_t (key := "words") rfl rfl e0 sh2.ne e1 e2 e3 sh2.w0 sh2.small.1 o2 fun wd hwd H3 k3 o3 => ?_⟩
    exact give ["put", sl, wd] (.put sl wd) (Nat.le_of_ble_eq_true rfl) rfl (fun dep => by unfold okR; exact ⟨hsl', hwd⟩) rfl H3 (k12.trans k3) o3
  -- kind == 1 and shape["kind"] == "derived": give
  refine ⟨fun σ' H' => H' = H2 ∧ σ' = [some (.ref st), some (.ref d), some (.int kd), some (.str sl), none] ∧ (kd = 1 → S.eff = true), ?_, ?_⟩
  · refine ⟨_, rfl, rfl, _, rfl, ?_⟩
    refine ite2 (fun c => ?_) (fun c => ?_)
    · refine ⟨_, rfl, d, _, rfl, dget_of e0 e13, rfl, _, rfl, ?_⟩
      cases hE : S.eff with
      | false =>
        refine if_true_of (by rw [if_neg Bool.false_ne_true]; decide +kernel) ?_
        exact ⟨_, rfl, give ["give", sl] (.give sl) (Nat.le_of_ble_eq_true rfl) rfl (fun dep => by unfold okR; exact ⟨hE, hsl'⟩) rfl H2 k12 o2⟩
      | true =>
        refine if_false_of (by rw [if_pos rfl]; decide +kernel) ?_
        exact ⟨rfl, rfl, fun _ => rfl⟩
    · refine iteF ⟨rfl, rfl, fun e => absurd ?_ c⟩
      rw [e]; decide +kernel
  rintro σ' H' ⟨rfl, rfl, hk1⟩
  -- kind == 1: say
  refine ⟨_, rfl, rfl, _, rfl, ?_⟩
  refine ite2 (fun c => ?_) (fun _ => ?_)
  · have hk : kd = 1 := by
      have := of_decide_eq_true c
      injection this
    exact ⟨_, rfl, give ["say", sl] (.say sl) (Nat.le_of_ble_eq_true rfl) rfl (fun dep => by unfold okR; exact ⟨hk1 hk, hsl'⟩) rfl H' k12 o2⟩
  -- kind == 2 and shape["writes"]
  refine ⟨fun σ' H'' => H'' = H' ∧ σ' = [some (.ref st), some (.ref d), some (.int kd), some (.str sl), none], ?_, ?_⟩
  · refine ⟨_, rfl, rfl, _, rfl, ?_⟩
    refine ite2 (fun _ => ?_) (fun _ => iteF ⟨rfl, rfl⟩)
    refine ⟨_, rfl, d, _, rfl, dget_of e0 e15, _, rfl, ?_⟩
    refine ite2 (fun hw => ?_) (fun _ => ⟨rfl, rfl⟩)
    refine pick_t (key := "sources") rfl rfl e0 sh2.ne e10 e11 e12 sh2.o0 sh2.small.2.2.2 o2 fun so hso H3 k3 o3 => ⟨_, rfl, ?_⟩
    exact give ["write", so, sl] (.wr so sl) (Nat.le_of_ble_eq_true rfl) rfl (fun dep => by unfold okR; exact ⟨e17 hw, hso, hsl'⟩) rfl H3 (k12.trans k3) o3
  rintro σ' H'' ⟨rfl, rfl⟩
  -- cell
  refine pick_l (key := "cells") rfl rfl e0 sh2.ne e7 e8 e9 sh2.c0 sh2.small.2.2.1 o2 fun ce hce H3 k3 o3 => ?_
  have sh3 := sh2.keep k3
  obtain ⟨kvs3, aw3, asl3, ac3, aso3, pk3, wr3, f0, f00, f1, f2, f3, f4, f5, f6, f7, f8, f9, f10, f11, f12, f13, f14, f15, f16, f17⟩ := sh3.ex
  refine ⟨fun σ' H4 => H4 = H3 ∧ σ' = [some (.ref st), some (.ref d), some (.int kd), some (.str sl), some (.str ce)], ?_, ?_⟩
  · refine ⟨_, rfl, rfl, _, rfl, ?_⟩
    refine ite2 (fun _ => ?_) (fun _ => iteF ⟨rfl, rfl⟩)
    refine ⟨_, rfl, d, _, rfl, dget_of f0 f14, _, rfl, ?_⟩
    refine ite2 (fun hp => ?_) (fun _ => ⟨rfl, rfl⟩)
    exact ⟨_, rfl, _, rfl, give ["peek", ce, sl] (.rd true ce sl) (Nat.le_of_ble_eq_true rfl) rfl (fun dep => by unfold okR; exact ⟨fun _ => f16 hp, hce, hsl'⟩) rfl H3 (k12.trans k3) o3⟩
  rintro σ' H4 ⟨rfl, rfl⟩
  exact ⟨_, rfl, _, rfl, give ["read", ce, sl] (.rd false ce sl) (Nat.le_of_ble_eq_true rfl) rfl (fun dep => by unfold okR; exact ⟨(fun h => nomatch h), hce, hsl'⟩) rfl H4 (k12.trans k3) o3⟩
end
end K41
namespace K41
open PySem PySem.Spec PyProof.Rows L2 Td
def spRows (K : PySem.W.Frag) (n : Nat) : Sp := fun vs H Q _ => ∃ (st sc d : Addr) (S : Sc) (slots : List Str) (dep : Nat) (room : Int),
  vs = [.ref st, .ref d, .int (dep : Nat), .int room] ∧ StOk H st sc ∧ ShapeAt K st H d S slots ∧ dep ≤ 4 ∧ 6 ≤ dep + n ∧ 0 ≤ room ∧ room ≤ 100 ∧
  ∀ (v : V) (rs : List Td.Row) (H' : Hp), Keep st H H' → StOk H' st sc → okRs S dep rs → (cnts rs : Int) ≤ room → Tn K H' v (.tuple (rowsD rs)) → Q v H'
theorem cnts_one (r : Td.Row) : cnts [r] = Td.cnt r := by simp [cnts]
theorem rowsD_one (r : Td.Row) : rowsD [r] = [rowD r] := by simp [rowsD]
theorem cnts_len : ∀ rs : List Td.Row, rs.length ≤ cnts rs
  | [] => Nat.zero_le _
  | r :: rs => by
    have := cnts_len rs
    have := cnt_pos r
    simp only [cnts, List.length_cons]
    omega
section
variable {P : Program} {w : World} {K : PySem.W.Frag} {mg : Str → Option Value} {base : Heap}
theorem ok_rows1 (T : Tops w K mg) {n : Nat} (hn5 : 5 ≤ n)
    (G__law_draw : FnOk P w K mg base CX0 1 T.a__law_draw T.d__law_draw ["_law_state_here", "_law_many_here"] spDraw)
    (G__law_row : FnOk P w K mg base CX0 2 T.a__law_row T.d__law_row ["_law_state_here", "_law_shape"] (spRow K))
    (G__law_many : FnOk P w K mg base CX0 5 T.a__law_many T.d__law_many ["_law_rows_here"] (spMany K 5))
    (G__law_rows : FnOk P w K mg base CX0 n T.a__law_rows T.d__law_rows ["_law_state_here", "_law_shape", "_law_depth", "_law_room"] (spRows K (n - 5))) :
    FnOk P w K mg base CX0 (n + 1) T.a__law_rows T.d__law_rows ["_law_state_here", "_law_shape", "_law_depth", "_law_room"] (spRows K (n - 5 + 1)) := by
  refine T.F__law_rows.ok sc_law_rows (fun vs H Q E h => ?_) (fun cdv A outer s H vs Q E hr h => ?_)
  · obtain ⟨st, sc, d, S, slots, dep, room, rfl, _⟩ := h
    rfl
  obtain ⟨st, sc, d, S, slots, dep, room, rfl, ok, sh, hdep, hn, hr0, hr1, q⟩ := h
  refine ⟨_, (pss_cons (ps_set (i := 4) sc_law_rows.nd rfl (Or.inl rfl) (pe_lst pa_nil))
    (pss_cons (ps_set (i := 5) sc_law_rows.nd rfl (Or.inl rfl) (pv 3))
    (pss_cons (ps_for PassesOwn.never rfl (pi_range1 rfl T.z_range (pa_cons (pe_op op_add pe_int (pe_call G__law_draw (hr.mono (by omega)) rfl T.m__law_draw T.F__law_draw.kp T.b__law_draw .nil pass0 (pa_cons (pv 0) (pa_cons pe_int pa_nil)))) pa_nil)) (pg_name (i := 6) sc_law_rows.nd rfl (Or.inl rfl)) (pss_one (ps_ifC (PW.pt (pw_and (pt_cmpR op_ge (pv 5) pe_int (nomark _)) (pw_and (pt_cmpR op_lt (pv 2) pe_int (nomark _)) (pw_and1 (pt_cmpR op_eq (pe_call G__law_draw (hr.mono (by omega)) rfl T.m__law_draw T.F__law_draw.kp T.b__law_draw .nil pass0 (pa_cons (pv 0) (pa_cons pe_int pa_nil))) pe_int (nomark _)))))) (pss_cons (ps_set (i := 7) sc_law_rows.nd rfl (Or.inl rfl) (pe_ix ix_list (pe_dget (hu_of hr) (pv 1) pe_str (fun _ _ => rfl)) (pe_call G__law_draw (hr.mono (by omega)) rfl T.m__law_draw T.F__law_draw.kp T.b__law_draw .nil pass0 (pa_cons (pv 0) (pa_cons (pe_callB call_len rfl T.z_len PySem.boot_len (pa_cons (pe_dget (hu_of hr) (pv 1) pe_str (fun _ _ => rfl)) pa_nil)) pa_nil))) (fun _ _ => rfl)))
    (pss_cons (ps_set (i := 8) sc_law_rows.nd rfl (Or.inl rfl) (pe_ix ix_list (pe_dget (hu_of hr) (pv 1) pe_str (fun _ _ => rfl)) (pe_call G__law_draw (hr.mono (by omega)) rfl T.m__law_draw T.F__law_draw.kp T.b__law_draw .nil pass0 (pa_cons (pv 0) (pa_cons (pe_callB call_len rfl T.z_len PySem.boot_len (pa_cons (pe_dget (hu_of hr) (pv 1) pe_str (fun _ _ => rfl)) pa_nil)) pa_nil))) (fun _ _ => rfl)))
    (pss_cons (ps_set (i := 9) sc_law_rows.nd rfl (Or.inl rfl) (pe_ix ix_tup (pe_dget (hu_of hr) (pv 1) pe_str (fun _ _ => rfl)) (pe_call G__law_draw (hr.mono (by omega)) rfl T.m__law_draw T.F__law_draw.kp T.b__law_draw .nil pass0 (pa_cons (pv 0) (pa_cons (pe_callB call_len rfl T.z_len PySem.boot_len (pa_cons (pe_dget (hu_of hr) (pv 1) pe_str (fun _ _ => rfl)) pa_nil)) pa_nil))) (fun _ _ => rfl)))
    (pss_cons (ps_expr (pe_bm PySem.F.plainAttrs_list PySem.F.slot_list_append PySem.F.type_list_append mt_append (pv 4) (pa_cons (pe_tup (pa_cons pe_str (pa_cons (pv 8) (pa_cons (pv 7) pa_nil)))) pa_nil)))
    (pss_cons (ps_set (i := 10) sc_law_rows.nd rfl (Or.inl rfl) (pe_call G__law_rows (hr.mono (by omega)) rfl T.m__law_rows T.F__law_rows.kp T.b__law_rows .nil pass0 (pa_cons (pv 0) (pa_cons (pv 1) (pa_cons (pe_op op_add (pv 2) pe_int) (pa_cons (pe_op op_fdivW (pe_op op_sub (pv 5) pe_int) pe_int) pa_nil))))))
    (pss_cons (ps_set (i := 11) sc_law_rows.nd rfl (Or.inl rfl) (pe_call G__law_rows (hr.mono (by omega)) rfl T.m__law_rows T.F__law_rows.kp T.b__law_rows .nil pass0 (pa_cons (pv 0) (pa_cons (pv 1) (pa_cons (pe_op op_add (pv 2) pe_int) (pa_cons (pe_op op_fdivW (pe_op op_sub (pv 5) pe_int) pe_int) pa_nil))))))
    (pss_cons (ps_expr (pe_bm PySem.F.plainAttrs_list PySem.F.slot_list_append PySem.F.type_list_append mt_append (pv 4) (pa_cons (pe_tup (pa_cons pe_str (pa_cons (pv 7) (pa_cons (pv 9) (pa_cons (pv 10) (pa_cons (pv 11) pa_nil)))))) pa_nil)))
    (pss_one (ps_set (i := 5) sc_law_rows.nd rfl (Or.inl rfl) (pe_op op_sub (pe_op op_sub (pe_op op_sub (pv 5) pe_int) (pe_call G__law_many (hr.mono (by omega)) rfl T.m__law_many T.F__law_many.kp T.b__law_many .nil pass0 (pa_cons (pv 10) pa_nil))) (pe_call G__law_many (hr.mono (by omega)) rfl T.m__law_many T.F__law_many.kp T.b__law_many .nil pass0 (pa_cons (pv 11) pa_nil)))))))))))) (pss_one (ps_if (pt_cmpR op_ge (pv 5) pe_int (nomark _)) (pss_cons (ps_expr (pe_bm PySem.F.plainAttrs_list PySem.F.slot_list_append PySem.F.type_list_append mt_append (pv 4) (pa_cons (pe_call G__law_row (hr.mono (by omega)) rfl T.m__law_row T.F__law_row.kp T.b__law_row .nil pass0 (pa_cons (pv 0) (pa_cons (pv 1) pa_nil))) pa_nil)))
    (pss_one (ps_set (i := 5) sc_law_rows.nd rfl (Or.inl rfl) (pe_op op_sub (pv 5) pe_int)))) pss_nil)))))
    (pss_one (ps_ret (pe_callTy call_tuple_of rfl T.z_tuple (by decide +kernel) (pa_cons (pv 4) pa_nil))))))), ?_⟩
  refine ⟨Nat.zero_le _, fun p hp => ?_⟩
  obtain ⟨nps, npc⟩ := ok.ne hp
  have ok0 : StOk (upd H p (.lst [])) st sc := ok.new hp
  have kp0 : Keep st H (upd H p (.lst [])) := Keep.new hp
  refine ⟨_, rfl, _, rfl, st, sc, 4, rfl, by decide, by decide, ok0, fun tn H1 t0 t1 k1 o1 _ => ⟨_, _, rfl, rfl, _, rfl, by omega, by omega, ?_⟩⟩
  have kH1 : Keep st H H1 := kp0.trans k1
  have hpH1 : H1 p = some (.lst []) := k1 _ _ nps upd_same
  refine for_range (lo := 0) (n := (1 + tn).toNat) (fun i σ H' => ∃ (left : Int) (v6 v7 v8 v9 v10 v11 : Option V) (xs : List V) (rs : List Td.Row),
    σ = [some (.ref st), some (.ref d), some (.int (dep : Nat)), some (.int room), some (.ref p), some (.int left), v6, v7, v8, v9, v10, v11] ∧
    Keep st H H' ∧ StOk H' st sc ∧ H' p = some (.lst xs) ∧ TnAll K H' xs (rowsD rs) ∧ okRs S dep rs ∧ (cnts rs : Int) + left ≤ room ∧ 0 ≤ left)
    ⟨room, none, none, none, none, none, none, [], [], rfl, kH1, o1, hpH1, by unfold rowsD; exact .nil, by unfold okRs; trivial, by simp [cnts], hr0⟩ ?_ ?_
  · rintro i σ H2 hi ⟨left, v6, v7, v8, v9, v10, v11, xs, rs, rfl, kH, oH, hpH, hT, hok, hcnt, hl0⟩
    have hlen : ∀ ys : List V, TnAll K H2 ys (rowsD rs) → ys.length ≤ 100 := fun ys h => by
      have e := h.length
      rw [rowsD_length] at e
      have := cnts_len rs
      omega
    -- append a row's tuple
    have app : ∀ {H3 : Hp} {v : V} {r : Td.Row} {ys : List V} {ts : List Td.Row}, Keep st H H3 → StOk H3 st sc → H3 p = some (.lst ys) → TnAll K H3 ys (rowsD ts) → okRs S dep ts → Tn K H3 v (rowD r) → okR S dep r →
        Keep st H (upd H3 p (.lst (ys ++ [v]))) ∧ StOk (upd H3 p (.lst (ys ++ [v]))) st sc ∧ TnAll K (upd H3 p (.lst (ys ++ [v]))) (ys ++ [v]) (rowsD (ts ++ [r])) ∧ okRs S dep (ts ++ [r]) ∧ cnts (ts ++ [r]) = cnts ts + Td.cnt r ∧ TK H3 (upd H3 p (.lst (ys ++ [v]))) := by
      intro H3 v r ys ts k3 o3 hp3 t3 okt tv okr
      have tk : TK H3 (upd H3 p (.lst (ys ++ [v]))) := TK.upd (by rw [hp3]; trivial)
      refine ⟨k3.own (ok.ne hp |>.1 |> fun _ => hp), o3.other nps npc, ?_, okRs_append okt (okRs_one okr), ?_, tk⟩
      · rw [rowsD_append, rowsD_one]
        exact TnAll.append (TnAll.keep tk t3) (TnAll.one (Tn.keep tk tv))
      · rw [cnts_append, cnts_one]
    have chg : ∀ {H3 : Hp}, StOk H3 st sc → Chg (H3 st) := fun o => by obtain ⟨L, hL⟩ := o.at; rw [hL]; trivial
    refine ⟨fun H3 => Keep st H2 H3 ∧ StOk H3 st sc, ?_, ?_⟩
    · refine ⟨_, rfl, _, _, rfl, rfl, _, rfl, ?_⟩
      refine ite2 (fun c1 => ?_) (fun _ => iteF ⟨Keep.refl _ _, oH⟩)
      have c1' : 2 ≤ left := of_decide_eq_true c1
      refine ⟨_, rfl, _, _, rfl, rfl, _, rfl, ?_⟩
      refine ite2 (fun c2 => ?_) (fun _ => iteF ⟨Keep.refl _ _, oH⟩)
      have c2' : ((dep : Nat) : Int) < 4 := of_decide_eq_true c2
      refine ⟨_, rfl, st, sc, 3, rfl, by decide, by decide, oH, fun x3 H3 x30 x31 k3 o3 _ => ⟨rfl, _, rfl, ?_⟩⟩
      refine ite2 (fun _ => ?_) (fun _ => ⟨k3, o3⟩)
      have sh3 := sh.keep (kH.trans k3)
      obtain ⟨kvs, aw, asl, ac, aso, pk, wr, e0, e00, e1, e2, e3, e4, e5, e6, e7, e8, e9, e10, e11, e12, e13, e14, e15, e16, e17⟩ := sh3.ex
      refine pick_l (key := "slots") rfl rfl e0 sh3.ne e4 e5 e6 sh3.s0 sh3.small.2.1 o3 fun sl hsl H4 k4 o4 => ?_
      have hsl' := sh3.good sl hsl
      have sh4 := sh3.keep k4
      obtain ⟨kvs, aw, asl, ac, aso, pk, wr, e0, e00, e1, e2, e3, e4, e5, e6, e7, e8, e9, e10, e11, e12, e13, e14, e15, e16, e17⟩ := sh4.ex
      refine pick_l (key := "cells") rfl rfl e0 sh4.ne e7 e8 e9 sh4.c0 sh4.small.2.2.1 o4 fun ce hce H5 k5 o5 => ?_
      have sh5 := sh4.keep k5
      obtain ⟨kvs, aw, asl, ac, aso, pk, wr, e0, e00, e1, e2, e3, e4, e5, e6, e7, e8, e9, e10, e11, e12, e13, e14, e15, e16, e17⟩ := sh5.ex
      refine pick_t (key := "words") rfl rfl e0 sh5.ne e1 e2 e3 sh5.w0 sh5.small.1 o5 fun wd hwd H6 k6 o6 => ?_
      have k26 : Keep st H2 H6 := k3.trans (k4.trans (k5.trans k6))
      have hp6 := k26 _ _ nps hpH
      have cst : Chg (H2 st) := by obtain ⟨L, hL⟩ := oH.at; rw [hL]; trivial
      have tk26 : TK H2 H6 := TK.of_keep k26 cst
      have t6 := TnAll.keep tk26 hT
      have hx100 := hlen xs hT
      -- append ("read", cell, slot)
      refine ⟨_, rfl, .inl ⟨rfl, _, SqL.of hp6⟩, _, rfl, _, rfl, by show 3 ≤ sizeLine; decide, fun t1 ht1 => ?_⟩
      have npt : p ≠ t1 := fun e => by rw [e, ht1] at hp6; cases hp6
      have hp7 : upd H6 t1 (.tup [.str "read", .str ce, .str sl]) p = some (.lst xs) := by rw [upd_ne npt]; exact hp6
      refine ⟨p, _, _, rfl, rfl, hp7, small1000 (by omega), ?_⟩
      have k7 : Keep st H (upd H6 t1 (.tup [.str "read", .str ce, .str sl])) := (kH.trans k26).trans (Keep.new ht1)
      obtain ⟨k8, o8, t8, ok8, c8, tk8⟩ := app (r := .rd false ce sl) k7 (o6.new ht1) hp7
        (TnAll.keep (TK.of_same (Same.new ht1 _)) t6) hok (by unfold rowD; exact Tn.new (TnAll.strs ["read", ce, sl]) ht1) (by unfold okR; exact ⟨(fun h => nomatch h), hce, hsl'⟩)
      have h8p : upd (upd H6 t1 (.tup [.str "read", .str ce, .str sl])) p (.lst (xs ++ [.ref t1])) p = some (.lst (xs ++ [.ref t1])) := upd_same
      show tSeq _ _ _ _ (upd (upd H6 t1 (.tup [.str "read", .str ce, .str sl])) p (.lst (xs ++ [.ref t1])))
      generalize upd (upd H6 t1 (.tup [.str "read", .str ce, .str sl])) p (.lst (xs ++ [.ref t1])) = H8 at k8 o8 t8 h8p
      -- yes, no
      refine ⟨_, rfl, _, rfl, _, rfl, _, _, rfl, rfl, _, rfl, _, _, rfl, rfl, _, _, rfl, rfl, wide_div (b := 64) (by decide) (by decide) (by decide) (by decide), ?_⟩
      refine ⟨st, sc, d, S, slots, dep + 1, _, rfl, o8, sh.keep k8, by omega, by omega, by omega, by omega, fun vy y H9 k9 o9 oky cy ty => ?_⟩
      refine ⟨_, rfl, _, rfl, _, rfl, _, _, rfl, rfl, _, rfl, _, _, rfl, rfl, _, _, rfl, rfl, wide_div (b := 64) (by decide) (by decide) (by decide) (by decide), ?_⟩
      refine ⟨st, sc, d, S, slots, dep + 1, _, rfl, o9, sh.keep (k8.trans k9), by omega, by omega, by omega, by omega, fun vn y' H10 k10 o10 okn cn tn' => ?_⟩
      have h10p := k10 _ _ nps (k9 _ _ nps h8p)
      have tk810 : TK H8 H10 := (TK.of_keep k9 (chg o8)).trans (TK.of_keep k10 (chg o9))
      have ty10 := Tn.keep (TK.of_keep k10 (chg o9)) ty
      -- append ("if", slot, word, yes, no)
      refine ⟨_, rfl, .inl ⟨rfl, _, SqL.of h10p⟩, _, rfl, _, rfl, _, rfl, _, rfl, by show 5 ≤ sizeLine; decide, fun t2 ht2 => ?_⟩
      have npt2 : p ≠ t2 := fun e => by rw [e, ht2] at h10p; cases h10p
      have tup2 : Tn K (upd H10 t2 (.tup [.str "if", .str sl, .str wd, vy, vn])) (.ref t2) (rowD (.ite sl wd y y')) := by
        unfold rowD
        exact Tn.new (.cons (.str _) (.cons (.str _) (.cons (.str _) (.cons ty10 (.cons tn' .nil))))) ht2
      have h11p : upd H10 t2 (.tup [.str "if", .str sl, .str wd, vy, vn]) p = some (.lst (xs ++ [.ref t1])) := by rw [upd_ne npt2]; exact h10p
      refine ⟨p, _, _, rfl, rfl, h11p, small1000 (by rw [List.length_append]; show xs.length + 1 ≤ 1000; omega), ?_⟩
      have k11 : Keep st H (upd H10 t2 (.tup [.str "if", .str sl, .str wd, vy, vn])) := ((k8.trans k9).trans k10).trans (Keep.new ht2)
      have tk11 : TK H10 (upd H10 t2 (.tup [.str "if", .str sl, .str wd, vy, vn])) := TK.of_same (Same.new ht2 _)
      obtain ⟨k12, o12, t12, ok12, c12, tk12⟩ := app k11 (o10.new ht2) h11p (TnAll.keep (tk810.trans tk11) t8) ok8 tup2 (by unfold okR; exact ⟨by omega, hsl', hwd, oky, okn⟩)
      have ec : Td.cnt (.ite sl wd y y') = 1 + cnts y + cnts y' := by unfold Td.cnt; rfl
      have er : Td.cnt (.rd false ce sl) = 1 := rfl
      have ty12 := Tn.keep (tk11.trans tk12) ty10
      have tn12 := Tn.keep (tk11.trans tk12) tn'
      refine ⟨_, rfl, _, _, rfl, rfl, _, rfl, vy, y, S, dep + 1, rfl, ty12.dp, oky, by omega, by omega, _, _, rfl, rfl, _, rfl, vn, y', S, dep + 1, rfl, tn12.dp, okn, by omega, by omega, _, _, rfl, rfl, ?_⟩
      exact ⟨_, _, _, _, _, _, _, _, _, rfl, k12, o12, upd_same, t12, ok12, by rw [c12, c8, ec, er]; omega, by omega⟩
    · rintro H3 ⟨k3, o3⟩
      refine ⟨_, rfl, _, _, rfl, rfl, _, rfl, ?_⟩
      refine ite2 (fun c1 => ?_) (fun _ => ?_)
      · have c1' : 1 ≤ left := of_decide_eq_true c1
        have hp3 := k3 _ _ nps hpH
        have cst : Chg (H2 st) := by obtain ⟨L, hL⟩ := oH.at; rw [hL]; trivial
        have t3 := TnAll.keep (TK.of_keep k3 cst) hT
        have hx100 := hlen xs hT
        refine ⟨_, rfl, .inl ⟨rfl, _, SqL.of hp3⟩, _, rfl, _, rfl, st, sc, d, S, slots, rfl, o3, sh.keep (kH.trans k3), fun v r H4 k4 o4 okr hir tv => ?_⟩
        have hp4 := k4 _ _ nps hp3
        refine ⟨p, _, _, rfl, rfl, hp4, small1000 (by omega), ?_⟩
        refine ⟨_, rfl, _, _, rfl, rfl, ?_⟩
        have cst3 : Chg (H3 st) := by obtain ⟨L, hL⟩ := o3.at; rw [hL]; trivial
        obtain ⟨k5, o5, t5, ok5, c5, tk5⟩ := app ((kH.trans k3).trans k4) o4 hp4 (TnAll.keep (TK.of_keep k4 cst3) t3) hok tv (okr dep)
        have e1 := cnt_flat hir
        exact ⟨_, _, v7, v8, v9, v10, v11, _, _, rfl, k5, o5, upd_same, t5, ok5, by rw [c5, e1]; omega, by omega⟩
      · exact ⟨left, _, v7, v8, v9, v10, v11, xs, rs, rfl, kH.trans k3, o3, k3 _ _ nps hpH, TnAll.keep (TK.of_keep k3 (chg oH)) hT, hok, hcnt, hl0⟩
  · rintro σ H2 ⟨left, v6, v7, v8, v9, v10, v11, xs, rs, rfl, kH, oH, hpH, hT, hok, hcnt, hl0⟩
    refine ⟨_, rfl, p, _, rfl, .inl ⟨SqL.of hpH, fun t ht => ?_⟩⟩
    exact q _ rs _ (kH.trans (Keep.new ht)) (oH.new ht) hok (by omega) (Tn.new hT ht)
theorem ok_rows (T : Tops w K mg)
    (G1 : FnOk P w K mg base CX0 1 T.a__law_draw T.d__law_draw ["_law_state_here", "_law_many_here"] spDraw)
    (G2 : FnOk P w K mg base CX0 2 T.a__law_row T.d__law_row ["_law_state_here", "_law_shape"] (spRow K))
    (G3 : FnOk P w K mg base CX0 5 T.a__law_many T.d__law_many ["_law_rows_here"] (spMany K 5)) :
    ∀ k, FnOk P w K mg base CX0 (k + 5) T.a__law_rows T.d__law_rows ["_law_state_here", "_law_shape", "_law_depth", "_law_room"] (spRows K k)
  | 0 => by
    have no : ∀ vs H Q E, ¬ spRows K 0 vs H Q E := fun vs H Q E h => by
      obtain ⟨_, _, _, _, _, dep, _, _, _, _, h1, h2, _⟩ := h
      omega
    exact ⟨fun vs H Q E h => absurd h (no vs H Q E), fun A outer s H args us vs Q E _ _ _ _ h => absurd h (no vs H Q E)⟩
  | k + 1 => ok_rows1 T (n := k + 5) (by omega) G1 G2 G3 (ok_rows T G1 G2 G3 k)
end
end K41
namespace K41
open PySem PySem.Spec PyProof.Rows L2 Td
def spParts (K : PySem.W.Frag) : Sp := fun vs H Q _ => ∃ (st sc z : Addr) (a0 a1 a2 a3 a4 : Int) (pk wr : Bool),
  vs = [.ref st, .ref z, .bl pk, .bl wr] ∧ StOk H st sc ∧ SqL K H z [.int a0, .int a1, .int a2, .int a3, .int a4] ∧ z ≠ st ∧
  1 ≤ a0 ∧ a0 ≤ 3 ∧ 1 ≤ a1 ∧ a1 ≤ 4 ∧ 0 ≤ a2 ∧ a2 ≤ 6 ∧ 0 ≤ a3 ∧ a3 ≤ 4 ∧ 0 ≤ a4 ∧ a4 ≤ 15 ∧
  ∀ (v : V) (pp : PP) (H' : Hp), Keep st H H' → StOk H' st sc → pp.Ok (a4.toNat + 1) → Tn K H' v pp.data → Q v H'
/-- what stands while the bodies are drawn -/
structure PSt (K : PySem.W.Frag) (H0 H : Hp) (st sc aw pN p2 p4 pd pD : Addr) (ws srcs slots ns : List Str) (kd pk wr : V) (rd : List Str) (xs : List V) (ds : List (Str × List Td.Row)) : Prop where
  kp : Keep st H0 H
  ok : StOk H st sc
  wA : SqT K H aw (ws.map V.str)
  sA : SqT K H p4 (srcs.map V.str)
  nA : H pN = some (.lst (ns.map V.str))
  lA : H p2 = some (.lst (slots.map V.str))
  dA : ∃ pc, H pd = some (.dK (shp7 kd (.ref pc) (.ref p4) (.ref p2) (.ref aw) pk wr)) ∧ H pc = some (.lst (rd.map V.str)) ∧ pc ≠ st ∧ pc ≠ pD
  xA : H pD = some (.lst xs)
  tA : TnAll K H xs (ds.map Td.pairD)
structure PNe (H0 : Hp) (st sc aw pN p2 p4 pd pD : Addr) : Prop where
  naw : aw ≠ st
  npN : pN ≠ st
  np2 : p2 ≠ st
  np4 : p4 ≠ st
  npd : pd ≠ st
  npD : pD ≠ st
  ndc : pd ≠ sc
  nDc : pD ≠ sc
  d0 : H0 pd = none
  D0 : H0 pD = none
  nN : pN ≠ pD
  n2 : p2 ≠ pD
section
variable {K : PySem.W.Frag} {H0 H H' : Hp} {st sc aw pN p2 p4 pd pD : Addr} {ws srcs slots ns : List Str} {kd pk wr : V} {rd : List Str} {xs : List V} {ds : List (Str × List Td.Row)}
theorem StOk.chg (h : StOk H st sc) : Chg (H st) := by
  obtain ⟨L, hL⟩ := h.at
  rw [hL]; trivial
theorem PSt.keep (h : PSt K H0 H st sc aw pN p2 p4 pd pD ws srcs slots ns kd pk wr rd xs ds) (n : PNe H0 st sc aw pN p2 p4 pd pD) (k : Keep st H H') (o : StOk H' st sc) :
    PSt K H0 H' st sc aw pN p2 p4 pd pD ws srcs slots ns kd pk wr rd xs ds := by
  obtain ⟨pc, d1, d2, d3, d4⟩ := h.dA
  exact ⟨h.kp.trans k, o, SqT.keep k n.naw h.wA, SqT.keep k n.np4 h.sA, k _ _ n.npN h.nA, k _ _ n.np2 h.lA, ⟨pc, k _ _ n.npd d1, k _ _ d3 d2, d3, d4⟩, k _ _ n.npD h.xA,
    TnAll.keep (TK.of_keep k h.ok.chg) h.tA⟩
theorem PSt.new {p : Addr} {o : HO} (h : PSt K H0 H st sc aw pN p2 p4 pd pD ws srcs slots ns kd pk wr rd xs ds) (n : PNe H0 st sc aw pN p2 p4 pd pD) (hp : H p = none) :
    PSt K H0 (upd H p o) st sc aw pN p2 p4 pd pD ws srcs slots ns kd pk wr rd xs ds := h.keep n (Keep.new hp) (h.ok.new hp)
theorem PSt.shape {eff p r : Bool} (h : PSt K H0 H st sc aw pN p2 p4 pd pD ws srcs slots ns (.str (if eff then "effects" else "derived")) (.bl p) (.bl r) rd xs ds) (n : PNe H0 st sc aw pN p2 p4 pd pD)
    (hp : p = true → eff = true) (hr : r = true → eff = true) (w0 : ws ≠ []) (s0 : slots ≠ []) (c0 : rd ≠ []) (o0 : srcs ≠ []) (sm : ws.length ≤ 100 ∧ slots.length ≤ 100 ∧ rd.length ≤ 100 ∧ srcs.length ≤ 100) (g : ∀ z ∈ slots, isNm z = true) :
    ShapeAt K st H pd ⟨eff, ws, srcs, rd⟩ slots := by
  obtain ⟨pc, d1, d2, d3, d4⟩ := h.dA
  exact ⟨⟨_, aw, p2, pc, p4, p, r, d1, by show 7 ≤ 100; decide, get_words .., h.wA, n.naw, get_slots .., SqL.of h.lA, n.np2, get_cells .., SqL.of d2, d3, get_sources .., h.sA, n.np4, get_kind .., get_peeks .., get_writes .., hp, hr⟩, n.npd, w0, s0, c0, o0, sm, g⟩
theorem PSt.app {v : V} {q : Str × List Td.Row} (h : PSt K H0 H st sc aw pN p2 p4 pd pD ws srcs slots ns kd pk wr rd xs ds) (n : PNe H0 st sc aw pN p2 p4 pd pD) (tv : Tn K H v (Td.pairD q)) :
    PSt K H0 (upd H pD (.lst (xs ++ [v]))) st sc aw pN p2 p4 pd pD ws srcs slots ns kd pk wr rd (xs ++ [v]) (ds ++ [q]) := by
  obtain ⟨pc, d1, d2, d3, d4⟩ := h.dA
  have tk : TK H (upd H pD (.lst (xs ++ [v]))) := TK.upd (by rw [h.xA]; trivial)
  have ne1 : pd ≠ pD := ne_of d1 h.xA (by intro e; cases e)
  refine ⟨h.kp.own n.D0, h.ok.other n.npD n.nDc, SqT.tk tk h.wA, SqT.tk tk h.sA, by rw [upd_ne n.nN]; exact h.nA, by rw [upd_ne n.n2]; exact h.lA,
    ⟨pc, by rw [upd_ne ne1]; exact d1, by rw [upd_ne d4]; exact d2, d3, d4⟩, upd_same, ?_⟩
  rw [List.map_append]
  exact TnAll.append (TnAll.keep tk h.tA) (TnAll.one (Tn.keep tk tv))
/-- the dict is changed -/
theorem PSt.put {kd' pk' wr' : V} {rd' : List Str} {pc' : Addr} (h : PSt K H0 H st sc aw pN p2 p4 pd pD ws srcs slots ns kd pk wr rd xs ds) (n : PNe H0 st sc aw pN p2 p4 pd pD)
    (hc : H pc' = some (.lst (rd'.map V.str))) (h1 : pc' ≠ st) (h2 : pc' ≠ pD) :
    PSt K H0 (upd H pd (.dK (shp7 kd' (.ref pc') (.ref p4) (.ref p2) (.ref aw) pk' wr'))) st sc aw pN p2 p4 pd pD ws srcs slots ns kd' pk' wr' rd' xs ds := by
  obtain ⟨pc, d1, d2, d3, d4⟩ := h.dA
  have tk : TK H (upd H pd (.dK (shp7 kd' (.ref pc') (.ref p4) (.ref p2) (.ref aw) pk' wr'))) := TK.upd (by rw [d1]; trivial)
  exact ⟨h.kp.own n.d0, h.ok.other n.npd n.ndc, SqT.tk tk h.wA, SqT.tk tk h.sA, by rw [upd_ne (ne_of h.nA d1 (by intro e; cases e))]; exact h.nA, by rw [upd_ne (ne_of h.lA d1 (by intro e; cases e))]; exact h.lA,
    ⟨pc', upd_same, by rw [upd_ne (ne_of hc d1 (by intro e; cases e))]; exact hc, h1, h2⟩, by rw [upd_ne (ne_of h.xA d1 (by intro e; cases e))]; exact h.xA, TnAll.keep tk h.tA⟩
end
section
variable {P : Program} {w : World} {K : PySem.W.Frag} {mg : Str → Option Value} {base : Heap}
theorem ok_parts (T : Tops w K mg)
    (G__law_draw : FnOk P w K mg base CX0 1 T.a__law_draw T.d__law_draw ["_law_state_here", "_law_many_here"] spDraw)
    (G__law_names : FnOk P w K mg base CX0 2 T.a__law_names T.d__law_names ["_law_state_here", "_law_many_here"] spNames)
    (G__law_rows : FnOk P w K mg base CX0 10 T.a__law_rows T.d__law_rows ["_law_state_here", "_law_shape", "_law_depth", "_law_room"] (spRows K 5)) :
    FnOk P w K mg base CX0 11 T.a__law_parts T.d__law_parts ["_law_state_here", "_law_sizes", "_law_peeks", "_law_writes"] (spParts K) := by
  refine T.F__law_parts.ok sc_law_parts (fun vs H Q E h => ?_) (fun cdv A outer s H vs Q E hr h => ?_)
  · obtain ⟨st, sc, z, a0, a1, a2, a3, a4, pk, wr, rfl, _⟩ := h
    rfl
  obtain ⟨st, sc, z, a0, a1, a2, a3, a4, pk, wr, rfl, ok, hz, nz, a00, a01, a10, a11, a20, a21, a30, a31, a40, a41, q⟩ := h
  refine ⟨_, (pss_cons (ps_set (i := 4) sc_law_parts.nd rfl (Or.inl rfl) (pe_op op_add pe_int (pe_call G__law_draw (hr.mono (by omega)) rfl T.m__law_draw T.F__law_draw.kp T.b__law_draw .nil pass0 (pa_cons (pv 0) (pa_cons (pe_ix ix_list (pv 1) pe_int (fun _ _ => rfl)) pa_nil)))))
    (pss_cons (ps_set (i := 5) sc_law_parts.nd rfl (Or.inl rfl) (pe_op op_add pe_int (pe_call G__law_draw (hr.mono (by omega)) rfl T.m__law_draw T.F__law_draw.kp T.b__law_draw .nil pass0 (pa_cons (pv 0) (pa_cons (pe_ix ix_list (pv 1) pe_int (fun _ _ => rfl)) pa_nil)))))
    (pss_cons (ps_set (i := 6) sc_law_parts.nd rfl (Or.inl rfl) (pe_callB (call_max2 rfl) rfl T.z_max (by decide +kernel) (pa_cons (pe_call G__law_draw (hr.mono (by omega)) rfl T.m__law_draw T.F__law_draw.kp T.b__law_draw .nil pass0 (pa_cons (pv 0) (pa_cons (pe_op op_add (pe_ix ix_list (pv 1) pe_int (fun _ _ => rfl)) pe_int) pa_nil))) (pa_cons (pe_call G__law_draw (hr.mono (by omega)) rfl T.m__law_draw T.F__law_draw.kp T.b__law_draw .nil pass0 (pa_cons (pv 0) (pa_cons (pe_op op_add (pe_ix ix_list (pv 1) pe_int (fun _ _ => rfl)) pe_int) pa_nil))) pa_nil))))
    (pss_cons (ps_set (i := 7) sc_law_parts.nd rfl (Or.inl rfl) (pe_callB (call_max2 rfl) rfl T.z_max (by decide +kernel) (pa_cons (pe_call G__law_draw (hr.mono (by omega)) rfl T.m__law_draw T.F__law_draw.kp T.b__law_draw .nil pass0 (pa_cons (pv 0) (pa_cons (pe_op op_add (pe_ix ix_list (pv 1) pe_int (fun _ _ => rfl)) pe_int) pa_nil))) (pa_cons (pe_call G__law_draw (hr.mono (by omega)) rfl T.m__law_draw T.F__law_draw.kp T.b__law_draw .nil pass0 (pa_cons (pv 0) (pa_cons (pe_op op_add (pe_ix ix_list (pv 1) pe_int (fun _ _ => rfl)) pe_int) pa_nil))) pa_nil))))
    (pss_cons (ps_set (i := 8) sc_law_parts.nd rfl (Or.inl rfl) (pe_callTy call_tuple_of rfl T.z_tuple (by decide +kernel) (pa_cons (pe_call G__law_names (hr.mono (by omega)) rfl T.m__law_names T.F__law_names.kp T.b__law_names .nil pass0 (pa_cons (pv 0) (pa_cons (pv 4) pa_nil))) pa_nil)))
    (pss_cons (ps_set (i := 9) sc_law_parts.nd rfl (Or.inl rfl) (pe_call G__law_names (hr.mono (by omega)) rfl T.m__law_names T.F__law_names.kp T.b__law_names .nil pass0 (pa_cons (pv 0) (pa_cons (pe_op op_add (pe_op op_add (pv 5) (pv 6)) (pv 7)) pa_nil))))
    (C8.pss_cut (ps_if (PW.pt (pw_and (pt_cmpR op_eq (pe_call G__law_draw (hr.mono (by omega)) rfl T.m__law_draw T.F__law_draw.kp T.b__law_draw .nil pass0 (pa_cons (pv 0) (pa_cons pe_int pa_nil))) pe_int (nomark _)) (pw_and1 (pt_cmpR op_notIn_seq (pe_ix ix_list (pv 9) pe_int (fun _ _ => rfl)) (pv 8) (by rfl))))) (pss_one (ps_set (i := 8) sc_law_parts.nd rfl (Or.inl rfl) (pe_op op_catA (pe_slice sl_tupA (pv 8) (po_some pe_int) po_none) (pe_tup (pa_cons (pe_ix ix_list (pv 9) pe_int (fun _ _ => rfl)) pa_nil))))) pss_nil)
    (pss_cons (ps_set (i := 10) sc_law_parts.nd rfl (Or.inl rfl) (pe_op op_cat (pe_call G__law_names (hr.mono (by omega)) rfl T.m__law_names T.F__law_names.kp T.b__law_names .nil pass0 (pa_cons (pv 0) (pa_cons pe_int pa_nil))) (pe_lst (pa_cons (pe_ix ix_list (pv 9) pe_int (fun _ _ => rfl)) pa_nil))))
    (pss_cons (ps_set (i := 11) sc_law_parts.nd rfl (Or.inl rfl) (pe_callTy call_tuple_of rfl T.z_tuple (by decide +kernel) (pa_cons (pe_slice sl_list (pv 9) po_none (po_some (pv 5))) pa_nil)))
    (pss_cons (ps_set (i := 12) sc_law_parts.nd rfl (Or.inl rfl) (pe_disp (pps_cons pe_str pe_str (pps_cons pe_str (pe_callTy call_list_of rfl T.z_list (by decide +kernel) (pa_cons (pv 11) pa_nil)) (pps_cons pe_str (pv 11) (pps_cons pe_str (pv 10) (pps_cons pe_str (pv 8) pps_nil))))) (by rfl) (by rfl) (fun z => by cases z) (by decide)))
    (pss_cons (ps_dput (hu_of hr) (pv 12) pe_str pe_bl rfl)
    (pss_cons (ps_dput (hu_of hr) (pv 12) pe_str pe_bl rfl)
    (pss_cons (ps_set (i := 13) sc_law_parts.nd rfl (Or.inl rfl) (pe_lst pa_nil))
    (pss_cons (ps_for PassesOwn.never rfl (pi_range1 rfl T.z_range (pa_cons (pv 6) pa_nil)) (pg_name (i := 14) sc_law_parts.nd rfl (Or.inl rfl)) (pss_cons (ps_set (i := 15) sc_law_parts.nd rfl (Or.inl rfl) (pe_ix ix_list (pv 9) (pe_op op_add (pv 5) (pv 14)) (fun _ _ => rfl)))
    (pss_cons (ps_set (i := 16) sc_law_parts.nd rfl (Or.inl rfl) (pe_call G__law_rows (hr.mono (by omega)) rfl T.m__law_rows T.F__law_rows.kp T.b__law_rows .nil pass0 (pa_cons (pv 0) (pa_cons (pv 12) (pa_cons pe_int (pa_cons (pe_ix ix_list (pv 1) pe_int (fun _ _ => rfl)) pa_nil))))))
    (C8.pss_cut (ps_if (pt_cmpR op_gt (pe_call G__law_draw (hr.mono (by omega)) rfl T.m__law_draw T.F__law_draw.kp T.b__law_draw .nil pass0 (pa_cons (pv 0) (pa_cons pe_int pa_nil))) pe_int (nomark _)) (pss_one (ps_set (i := 16) sc_law_parts.nd rfl (Or.inl rfl) (pe_op op_catA (pv 16) (pe_tup (pa_cons (pe_tup (pa_cons pe_str (pa_cons (pe_ix ix_list (pv 10) (pe_call G__law_draw (hr.mono (by omega)) rfl T.m__law_draw T.F__law_draw.kp T.b__law_draw .nil pass0 (pa_cons (pv 0) (pa_cons pe_int pa_nil))) (fun _ _ => rfl)) pa_nil))) pa_nil))))) pss_nil)
    (pss_cons (ps_expr (pe_bm PySem.F.plainAttrs_list PySem.F.slot_list_append PySem.F.type_list_append mt_append (pv 13) (pa_cons (pe_tup (pa_cons (pv 15) (pa_cons (pv 16) pa_nil))) pa_nil)))
    (pss_one (ps_dput (hu_of hr) (pv 12) pe_str (pe_op op_cat (pe_dget (hu_of hr) (pv 12) pe_str (fun _ _ => rfl)) (pe_lst (pa_cons (pv 15) pa_nil))) rfl)))))))
    (pss_cons (ps_dput (hu_of hr) (pv 12) pe_str pe_str rfl)
    (pss_cons (ps_dput (hu_of hr) (pv 12) pe_str (pv 2) rfl)
    (pss_cons (ps_dput (hu_of hr) (pv 12) pe_str (pv 3) rfl)
    (pss_cons (ps_set (i := 17) sc_law_parts.nd rfl (Or.inl rfl) (pe_lst pa_nil))
    (pss_cons (ps_for PassesOwn.never rfl (pi_range1 rfl T.z_range (pa_cons (pv 7) pa_nil)) (pg_name (i := 14) sc_law_parts.nd rfl (Or.inl rfl)) (pss_cons (ps_set (i := 16) sc_law_parts.nd rfl (Or.inl rfl) (pe_call G__law_rows (hr.mono (by omega)) rfl T.m__law_rows T.F__law_rows.kp T.b__law_rows .nil pass0 (pa_cons (pv 0) (pa_cons (pv 12) (pa_cons pe_int (pa_cons (pe_ix ix_list (pv 1) pe_int (fun _ _ => rfl)) pa_nil))))))
    (C8.pss_cut (ps_if (pt_cmpR op_gt (pe_call G__law_draw (hr.mono (by omega)) rfl T.m__law_draw T.F__law_draw.kp T.b__law_draw .nil pass0 (pa_cons (pv 0) (pa_cons pe_int pa_nil))) pe_int (nomark _)) (pss_one (ps_set (i := 16) sc_law_parts.nd rfl (Or.inl rfl) (pe_op op_catA (pv 16) (pe_tup (pa_cons (pe_tup (pa_cons pe_str (pa_cons (pe_ix ix_list (pv 10) (pe_call G__law_draw (hr.mono (by omega)) rfl T.m__law_draw T.F__law_draw.kp T.b__law_draw .nil pass0 (pa_cons (pv 0) (pa_cons pe_int pa_nil))) (fun _ _ => rfl)) pa_nil))) pa_nil))))) pss_nil)
    (pss_one (ps_expr (pe_bm PySem.F.plainAttrs_list PySem.F.slot_list_append PySem.F.type_list_append mt_append (pv 17) (pa_cons (pe_tup (pa_cons (pe_ix ix_list (pv 9) (pe_op op_add (pe_op op_add (pv 5) (pv 6)) (pv 14)) (fun _ _ => rfl)) (pa_cons (pv 16) pa_nil))) pa_nil)))))))
    (pss_one (ps_ret (pe_tup (pa_cons (pv 8) (pa_cons (pv 11) (pa_cons (pe_callTy call_tuple_of rfl T.z_tuple (by decide +kernel) (pa_cons (pv 13) pa_nil)) (pa_cons (pe_callTy call_tuple_of rfl T.z_tuple (by decide +kernel) (pa_cons (pv 17) pa_nil)) pa_nil)))))))))))))))))))))))))), ?_⟩
  -- the four numbers
  refine ⟨_, rfl, _, rfl, z, _, 0, _, rfl, rfl, hz, rfl, st, sc, _, rfl, by omega, by omega, ok, fun mw H1 mw0 mw1 k1 o1 _ => ⟨_, _, rfl, rfl, ?_⟩⟩
  have z1 := SqL.keep k1 nz hz
  refine ⟨_, rfl, _, rfl, z, _, 1, _, rfl, rfl, z1, rfl, st, sc, _, rfl, by omega, by omega, o1, fun ms H2 ms0 ms1 k2 o2 _ => ⟨_, _, rfl, rfl, ?_⟩⟩
  have z2 := SqL.keep k2 nz z1
  refine ⟨_, rfl, _, rfl, z, _, 2, _, rfl, rfl, z2, rfl, _, _, rfl, rfl, st, sc, _, rfl, by omega, by omega, o2, fun d1 H3 d10 d11 k3 o3 _ => ?_⟩
  have z3 := SqL.keep k3 nz z2
  refine ⟨_, rfl, _, rfl, z, _, 2, _, rfl, rfl, z3, rfl, _, _, rfl, rfl, st, sc, _, rfl, by omega, by omega, o3, fun d2 H4 d20 d21 k4 o4 _ => ⟨_, _, rfl, ?_⟩⟩
  have z4 := SqL.keep k4 nz z3
  have md0 : 0 ≤ (if d2 > d1 then d2 else d1) ∧ (if d2 > d1 then d2 else d1) ≤ a2 := by split <;> omega
  generalize (if d2 > d1 then d2 else d1) = md at md0
  refine ⟨_, rfl, _, rfl, z, _, 3, _, rfl, rfl, z4, rfl, _, _, rfl, rfl, st, sc, _, rfl, by omega, by omega, o4, fun e1 H5 e10 e11 k5 o5 _ => ?_⟩
  have z5 := SqL.keep k5 nz z4
  refine ⟨_, rfl, _, rfl, z, _, 3, _, rfl, rfl, z5, rfl, _, _, rfl, rfl, st, sc, _, rfl, by omega, by omega, o5, fun e2 H6 e20 e21 k6 o6 _ => ⟨_, _, rfl, ?_⟩⟩
  have z6 := SqL.keep k6 nz z5
  have me0 : 0 ≤ (if e2 > e1 then e2 else e1) ∧ (if e2 > e1 then e2 else e1) ≤ a3 := by split <;> omega
  generalize (if e2 > e1 then e2 else e1) = me at me0
  have k06 : Keep st H H6 := k1.trans (k2.trans (k3.trans (k4.trans (k5.trans k6))))
  -- words, names
  refine ⟨_, rfl, _, rfl, st, sc, _, rfl, by omega, by omega, o6, fun pw ws H7 k7 o7 pw0 pws pwc pwL wl wN => ⟨pw, _, rfl, .inl ⟨SqL.of pwL, fun aw haw => ?_⟩⟩⟩
  have o8 : StOk (upd H7 aw (.tup (ws.map V.str))) st sc := o7.new haw
  have k8 : Keep st H (upd H7 aw (.tup (ws.map V.str))) := k06.trans (k7.trans (Keep.new haw))
  have w8 : SqT K (upd H7 aw (.tup (ws.map V.str))) aw (ws.map V.str) := SqT.of upd_same
  obtain ⟨naw, nawc⟩ := o7.ne haw
  show tSeq _ _ _ _ (upd H7 aw (.tup (ws.map V.str)))
  generalize upd H7 aw (.tup (ws.map V.str)) = H8 at o8 k8 w8
  refine ⟨_, rfl, _, rfl, _, rfl, _, _, rfl, rfl, _, rfl, _, _, rfl, rfl, st, sc, _, rfl, by omega, by omega, o8, fun pN ns H9 k9 o9 pN0 pNs pNc pNL nl nN => ?_⟩
  have k09 := k8.trans k9
  have w9 := SqT.keep k9 naw w8
  have z9 := SqL.keep k09 nz hz
  have hn0 : 0 < ns.length := by omega
  have n0at : atI (ns.map V.str) 0 = some (V.str ns[0]) := atI_nat (j := 0) (by rw [List.getElem?_map, List.getElem?_eq_getElem hn0]; rfl)
  -- the words may get the first name
  refine ⟨fun σ' H' => ∃ (aw : Addr) (ws : List Str), σ' = [some (.ref st), some (.ref z), some (.bl pk), some (.bl wr), some (.int (2 + mw)), some (.int (1 + ms)), some (.int md), some (.int me), some (.ref aw), some (.ref pN), none, none, none, none, none, none, none, none] ∧
    Keep st H H' ∧ StOk H' st sc ∧ SqT K H' aw (ws.map V.str) ∧ aw ≠ st ∧ H' pN = some (.lst (ns.map V.str)) ∧ (ws.length : Int) = 2 + mw ∧ Names ws, ?_, ?_⟩
  · refine ⟨_, rfl, st, sc, 4, rfl, by decide, by decide, o9, fun x H10 x0 x1 k10 o10 _ => ⟨rfl, _, rfl, ?_⟩⟩
    have w10 := SqT.keep k10 naw w9
    have L10 := k10 _ _ pNs pNL
    refine ite2 (fun _ => ?_) (fun _ => ⟨aw, ws, rfl, k09.trans k10, o10, w10, naw, L10, wl, wN⟩)
    refine ⟨_, rfl, pN, _, 0, _, rfl, rfl, SqL.of L10, n0at, _, rfl, aw, _, rfl, .inr w10, rfl, ?_, _, rfl, ?_⟩
    · exact L2.flat_strs ws
    refine ite2 (fun c => ?_) (fun _ => ⟨aw, ws, rfl, k09.trans k10, o10, w10, naw, L10, wl, wN⟩)
    have hnot : ns[0] ∉ ws := by
      have c' : (!inV (V.str ns[0]) (ws.map V.str)) = true := c
      rw [inV_strs] at c'
      simpa using c'
    have wsne : ws.map V.str ≠ [] := by
      intro e
      have := congrArg List.length e
      rw [List.length_map, List.length_nil] at this
      omega
    refine ⟨_, rfl, 1, rfl, aw, _, rfl, w10, fun hh => absurd hh (not_whole1 wsne none), fun _ p1 hp1 => ?_⟩
    have pN1 : upd H10 p1 (.tup (cutV (ws.map V.str) (some 1) none)) pN = some (.lst (ns.map V.str)) := by rw [upd_ne (ne_of_none L10 hp1)]; exact L10
    refine ⟨_, rfl, pN, _, 0, _, rfl, rfl, SqL.of pN1, n0at, by show 1 ≤ sizeLine; decide, fun p2 hp2 => ?_⟩
    have n12 : p1 ≠ p2 := fun e => by rw [← e, upd_same] at hp2; cases hp2
    have hp20 : H10 p2 = none := by rw [upd_ne (Ne.symm n12)] at hp2; exact hp2
    have drop_ne : cutV (ws.map V.str) (some 1) none ≠ [] := by
      rw [cut_from1]
      intro e
      have := congrArg List.length e
      rw [List.length_drop, List.length_map, List.length_nil] at this
      omega
    refine ⟨p1, p2, _, _, rfl, rfl, SqT.of (by rw [upd_ne n12, upd_same]), SqT.of upd_same, Nat.le_of_lt (small1000 ?_), fun e => absurd e drop_ne, fun _ e => (by cases e), fun _ _ p3 hp3 => ?_⟩
    · rw [cut_from1, List.length_drop, List.length_map]; show ws.length - 1 + 1 ≤ 1000; omega
    have k13 : Keep st H (upd (upd (upd H10 p1 (.tup (cutV (ws.map V.str) (some 1) none))) p2 (.tup [V.str ns[0]])) p3 (.tup (cutV (ws.map V.str) (some 1) none ++ [V.str ns[0]]))) :=
      (((k09.trans k10).trans (Keep.new hp1)).trans (Keep.new hp2)).trans (Keep.new hp3)
    have o13 := ((o10.new hp1 (o := .tup (cutV (ws.map V.str) (some 1) none))).new hp2 (o := .tup [V.str ns[0]])).new hp3 (o := .tup (cutV (ws.map V.str) (some 1) none ++ [V.str ns[0]]))
    refine ⟨p3, ws.drop 1 ++ [ns[0]], rfl, k13, o13, ?_, (((o10.new hp1).new hp2).ne hp3).1, ?_, ?_, wN.turn (nN.good _ (List.getElem_mem hn0)) hnot⟩
    · rw [cut_from1]
      have e : (ws.drop 1 ++ [ns[0]]).map V.str = (ws.map V.str).drop 1 ++ [V.str ns[0]] := by rw [List.map_append, List.map_drop]; rfl
      rw [e]
      exact SqT.of upd_same
    · rw [upd_ne (ne_of_none (by rw [upd_ne (ne_of_none pN1 hp2)]; exact pN1) hp3), upd_ne (ne_of_none pN1 hp2)]; exact pN1
    · rw [List.length_append, List.length_drop]; show ((ws.length - 1 + 1 : Nat) : Int) = 2 + mw; omega
  · clear wl wN w9 w8 naw nawc haw aw ws pwL pws pw0 pwc
    rintro σ' H11 ⟨aw, ws, rfl, k11, o11, w11, naw, L11, wl, wN⟩
    -- slots
    refine ⟨_, rfl, st, sc, _, rfl, by decide, by decide, o11, fun pS ss H12 k12 o12 pS0 pSs pSc pSL sl sN => ?_⟩
    have L12 := k12 _ _ pNs L11
    refine ⟨_, rfl, pN, _, 0, _, rfl, rfl, SqL.of L12, n0at, by show 1 ≤ sizeLine; decide, fun p1 hp1 => ?_⟩
    refine ⟨pS, p1, _, _, rfl, rfl, by rw [upd_ne (ne_of_none pSL hp1)]; exact pSL, upd_same, Nat.le_of_lt (small1000 (by rw [List.length_map]; show ss.length + 1 ≤ 1000; omega)), fun p2 hp2 => ?_⟩
    have k13 : Keep st H11 (upd (upd H12 p1 (.lst [V.str ns[0]])) p2 (.lst (ss.map V.str ++ [V.str ns[0]]))) := k12.trans ((Keep.new hp1).trans (Keep.new hp2))
    have o13 := (o12.new hp1 (o := .lst [V.str ns[0]])).new hp2 (o := .lst (ss.map V.str ++ [V.str ns[0]]))
    obtain ⟨np2, np2c⟩ := (o12.new hp1 (o := .lst [V.str ns[0]])).ne hp2
    have es : ss.map V.str ++ [V.str ns[0]] = (ss ++ [ns[0]]).map V.str := by rw [List.map_append]; rfl
    have S13 : upd (upd H12 p1 (.lst [V.str ns[0]])) p2 (.lst (ss.map V.str ++ [V.str ns[0]])) p2 = some (.lst ((ss ++ [ns[0]]).map V.str)) := by rw [upd_same, es]
    have slg : ∀ y ∈ ss ++ [ns[0]], isNm y = true := fun y hy => by
      rcases List.mem_append.mp hy with h | h
      · exact sN.good y h
      · rw [List.mem_singleton.mp h]; exact nN.good _ (List.getElem_mem hn0)
    have sln : (ss ++ [ns[0]]).length = 3 := by rw [List.length_append]; show ss.length + 1 = 3; omega
    show tSeq _ _ _ _ (upd (upd H12 p1 (.lst [V.str ns[0]])) p2 (.lst (ss.map V.str ++ [V.str ns[0]])))
    generalize upd (upd H12 p1 (.lst [V.str ns[0]])) p2 (.lst (ss.map V.str ++ [V.str ns[0]])) = H13 at k13 o13 S13
    generalize ss ++ [ns[0]] = slots at S13 slg sln
    -- sources
    have L13 := k13 _ _ pNs L11
    have msn : ((1 + ms).toNat : Nat) ≤ ns.length := by omega
    have ecut : cutV (ns.map V.str) none (some (1 + ms)) = (ns.take (1 + ms).toNat).map V.str := by
      have := cut_to (ns.map V.str) (1 + ms).toNat (by rw [List.length_map]; omega)
      rw [show (((1 + ms).toNat : Nat) : Int) = 1 + ms by omega] at this
      rw [this, List.map_take]
    refine ⟨_, rfl, _, rfl, _, rfl, pN, _, rfl, SqL.of L13, fun p3 hp3 => ⟨p3, _, rfl, .inl ⟨SqL.of upd_same, fun p4 hp4 => ?_⟩⟩⟩
    rw [ecut] at hp4 ⊢
    have k14 : Keep st H13 (upd (upd H13 p3 (.lst ((ns.take (1 + ms).toNat).map V.str))) p4 (.tup ((ns.take (1 + ms).toNat).map V.str))) := (Keep.new hp3).trans (Keep.new hp4)
    have o14 := (o13.new hp3 (o := .lst ((ns.take (1 + ms).toNat).map V.str))).new hp4 (o := .tup ((ns.take (1 + ms).toNat).map V.str))
    have S14 : SqT K (upd (upd H13 p3 (.lst ((ns.take (1 + ms).toNat).map V.str))) p4 (.tup ((ns.take (1 + ms).toNat).map V.str))) p4 ((ns.take (1 + ms).toNat).map V.str) := SqT.of upd_same
    obtain ⟨np4, np4c⟩ := (o13.new hp3 (o := .lst ((ns.take (1 + ms).toNat).map V.str))).ne hp4
    have srl : (ns.take (1 + ms).toNat).length = (1 + ms).toNat := by rw [List.length_take]; omega
    show tSeq _ _ _ _ (upd (upd H13 p3 (.lst ((ns.take (1 + ms).toNat).map V.str))) p4 (.tup ((ns.take (1 + ms).toNat).map V.str)))
    generalize upd (upd H13 p3 (.lst ((ns.take (1 + ms).toNat).map V.str))) p4 (.tup ((ns.take (1 + ms).toNat).map V.str)) = H14 at k14 o14 S14
    -- the shape
    refine fun pd hpd => ?_
    obtain ⟨npd, npdc⟩ := o14.ne hpd
    refine ⟨_, rfl, p4, _, rfl, .inr (SqT.same (Same.new hpd _) S14), fun p5 hp5 => ?_⟩
    have np5 : p5 ≠ pd := fun e => by rw [e, upd_same] at hp5; cases hp5
    have hp50 : H14 p5 = none := by rw [upd_ne np5] at hp5; exact hp5
    obtain ⟨np5s, np5c⟩ := o14.ne hp50
    refine ⟨_, rfl, _, rfl, _, rfl, by rw [upd_ne (Ne.symm np5), upd_same], shp (.str "derived") (.ref p5) (.ref p4) (.ref p2) (.ref aw), rfl, by show 5 ≤ 15; decide, ?_⟩
    rw [shp_merge]
    refine ⟨_, rfl, pd, _, rfl, DPut.k (k := Sum.inr "peeks") upd_same (small1000 (by show 5 ≤ 1000; decide)), ?_⟩
    rw [shp_peeks, upd_upd]
    refine ⟨_, rfl, pd, _, rfl, DPut.k (k := Sum.inr "writes") upd_same (small1000 (by show 6 ≤ 1000; decide)), ?_⟩
    rw [shp_writes, upd_upd]
    -- derived = []
    refine ⟨Nat.zero_le _, fun pD hpD => ?_⟩
    generalize hse : ns.take (1 + ms).toNat = srcs at S14 srl hpD hp5 ⊢
    have k1114 := k13.trans k14
    have k1014 := k11.trans k1114
    have d0 : H pd = none := k1014.free npd hpd
    have k15 : Keep st H14 (upd (upd (upd H14 pd (.dK [])) p5 (.lst (srcs.map V.str))) pd (.dK (shp7 (.str "derived") (.ref p5) (.ref p4) (.ref p2) (.ref aw) (.bl false) (.bl false)))) :=
      ((Keep.new hpd).trans (Keep.new hp5)).own hpd
    have o15 : StOk (upd (upd (upd H14 pd (.dK [])) p5 (.lst (srcs.map V.str))) pd (.dK (shp7 (.str "derived") (.ref p5) (.ref p4) (.ref p2) (.ref aw) (.bl false) (.bl false)))) st sc :=
      ((o14.new hpd).new hp5).other npd npdc
    have dd15 : upd (upd (upd H14 pd (.dK [])) p5 (.lst (srcs.map V.str))) pd (.dK (shp7 (.str "derived") (.ref p5) (.ref p4) (.ref p2) (.ref aw) (.bl false) (.bl false))) pd = some (.dK (shp7 (.str "derived") (.ref p5) (.ref p4) (.ref p2) (.ref aw) (.bl false) (.bl false))) := upd_same
    have pc15 : upd (upd (upd H14 pd (.dK [])) p5 (.lst (srcs.map V.str))) pd (.dK (shp7 (.str "derived") (.ref p5) (.ref p4) (.ref p2) (.ref aw) (.bl false) (.bl false))) p5 = some (.lst (srcs.map V.str)) := by rw [upd_ne np5, upd_same]
    generalize upd (upd (upd H14 pd (.dK [])) p5 (.lst (srcs.map V.str))) pd (.dK (shp7 (.str "derived") (.ref p5) (.ref p4) (.ref p2) (.ref aw) (.bl false) (.bl false))) = H15 at k15 o15 dd15 pc15 hpD ⊢
    have k1115 := k1114.trans k15
    have kH15 := k1014.trans k15
    obtain ⟨npD, npDc⟩ := o15.ne hpD
    have D0 : H pD = none := kH15.free npD hpD
    have L15 := k1115 _ _ pNs L11
    have S15 := (k14.trans k15) _ _ np2 S13
    have ne : PNe H st sc aw pN p2 p4 pd pD := ⟨naw, pNs, np2, np4, npd, npD, npdc, npDc, d0, D0, ne_of_none L15 hpD, ne_of_none S15 hpD⟩
    have ps0 : PSt K H (upd H15 pD (.lst [])) st sc aw pN p2 p4 pd pD ws srcs slots ns (.str "derived") (.bl false) (.bl false) srcs [] [] :=
      ⟨kH15.trans (Keep.new hpD), o15.new hpD, SqT.keep (k1115.trans (Keep.new hpD)) naw w11, SqT.keep (k15.trans (Keep.new hpD)) np4 S14, (Keep.new hpD) _ _ pNs L15, (Keep.new hpD) _ _ np2 S15,
        ⟨p5, (Keep.new hpD) _ _ npd dd15, (Keep.new hpD) _ _ np5s pc15, np5s, ne_of_none pc15 hpD⟩, upd_same, .nil⟩
    have w0 : ws ≠ [] := fun e => by rw [e] at wl; simp at wl; omega
    have sl0 : slots ≠ [] := fun e => by rw [e] at sln; simp at sln
    have so0 : srcs ≠ [] := fun e => by rw [e] at srl; simp at srl; omega
    have w100 : ws.length ≤ 100 := by omega
    have sr100 : srcs.length ≤ 100 := by omega
    -- the derived cells
    refine ⟨_, rfl, md, rfl, by omega, by omega, for_range (lo := 0) (n := md.toNat) (fun i σ H' => ∃ (v14 v15 v16 : Option V) (xs : List V) (ds : List (Str × List Td.Row)),
      σ = [some (.ref st), some (.ref z), some (.bl pk), some (.bl wr), some (.int (2 + mw)), some (.int (1 + ms)), some (.int md), some (.int me), some (.ref aw), some (.ref pN), some (.ref p2), some (.ref p4), some (.ref pd), some (.ref pD), v14, v15, v16, none] ∧
      PSt K H H' st sc aw pN p2 p4 pd pD ws srcs slots ns (.str "derived") (.bl false) (.bl false) (srcs ++ ds.map (·.1)) xs ds ∧ ds.length = i ∧ ds.map (·.1) = (ns.drop (1 + ms).toNat).take i ∧ okDer ws srcs (a4.toNat + 1) srcs ds)
      ⟨none, none, none, [], [], rfl, by simpa using ps0, rfl, by simp, by unfold okDer; trivial⟩ ?_ ?_⟩
    · rintro i σ H1 hi ⟨v14, v15, v16, xs, ds, rfl, ps, dl, dn, dok⟩
      have hil : (1 + ms).toNat + i < ns.length := by omega
      have hat : atI (ns.map V.str) (1 + ms + (0 + (i : Int))) = some (V.str ns[(1 + ms).toNat + i]) := by
        have : atI (ns.map V.str) (((1 + ms).toNat + i : Nat) : Int) = some (V.str ns[(1 + ms).toNat + i]) := atI_nat (by rw [List.getElem?_map, List.getElem?_eq_getElem hil]; rfl)
        rwa [show (((1 + ms).toNat + i : Nat) : Int) = 1 + ms + (0 + (i : Int)) by omega] at this
      refine ⟨_, rfl, _, rfl, _, rfl, _, _, rfl, rfl, pN, _, _, _, rfl, rfl, SqL.of ps.nA, hat, ?_⟩
      generalize hnm : ns[(1 + ms).toNat + i] = nm at hat
      have xl : xs.length = ds.length := by rw [ps.tA.length, List.length_map]
      have sh := ps.shape (eff := false) ne (fun h => nomatch h) (fun h => nomatch h) w0 sl0 (by simp [so0]) so0 ⟨w100, by omega, by rw [List.length_append, List.length_map]; omega, sr100⟩ slg
      refine ⟨_, rfl, _, rfl, _, rfl, z, _, 4, _, rfl, rfl, SqL.keep ps.kp nz hz, rfl, st, sc, pd, _, slots, 1, a4, rfl, ps.ok, sh, by decide, by decide, a40, by omega, fun rv rs H2 k2 o2 okr cr tr => ?_⟩
      have ps2 := ps.keep ne k2 o2
      refine ⟨fun σ' H' => ∃ (rv' : V) (rs' : List Td.Row), σ' = [some (.ref st), some (.ref z), some (.bl pk), some (.bl wr), some (.int (2 + mw)), some (.int (1 + ms)), some (.int md), some (.int me), some (.ref aw), some (.ref pN), some (.ref p2), some (.ref p4), some (.ref pd), some (.ref pD), some (.int (0 + (i : Int))), some (.str nm), some rv', none] ∧
        PSt K H H' st sc aw pN p2 p4 pd pD ws srcs slots ns (.str "derived") (.bl false) (.bl false) (srcs ++ ds.map (·.1)) xs ds ∧ okRs ⟨false, ws, srcs, srcs ++ ds.map (·.1)⟩ 1 rs' ∧ Lim false (a4.toNat + 1) rs' ∧ Tn K H' rv' (.tuple (rowsD rs')), ?_, ?_⟩
      · refine ⟨_, rfl, st, sc, 4, rfl, by decide, by decide, o2, fun x H3 x0 x1 k3 o3 _ => ⟨_, _, rfl, rfl, _, rfl, ?_⟩⟩
        have ps3 := ps2.keep ne k3 o3
        have tr3 := Tn.keep (TK.of_keep k3 o2.chg) tr
        refine ite2 (fun _ => ?_) (fun _ => ⟨rv, rs, rfl, ps3, okr, ⟨by omega, rs, [], (List.append_nil rs).symm, by omega, .inl rfl⟩, tr3⟩)
        obtain ⟨ar, ys, rfl, hS3, hT3⟩ := Tn.tup_inv tr3
        have yl : ys.length = rs.length := by rw [hT3.length, rowsD_length]
        have := cnts_len rs
        refine ⟨_, rfl, _, rfl, _, rfl, st, sc, 3, rfl, by decide, by decide, o3, fun y H4 y0 y1 k4 o4 _ => ?_⟩
        have ps4 := ps3.keep ne k4 o4
        obtain ⟨sl, hsl, esl⟩ := pick (xs := slots) y0 (by rw [List.length_map]; omega)
        refine ⟨p2, _, y, _, rfl, rfl, SqL.of ps4.lA, esl, by show 2 ≤ sizeLine; decide, fun t1 ht1 => ⟨by show 1 ≤ sizeLine; decide, fun t2 ht2 => ?_⟩⟩
        have g1 : Tn K (upd H4 t1 (.tup [.str "give", .str sl])) (.ref t1) (rowD (.give sl)) := by unfold rowD; exact Tn.new (TnAll.strs ["give", sl]) ht1
        have g2 := Tn.new (TnAll.one g1) ht2
        have ps5 := (ps4.new ne ht1 (o := .tup [.str "give", .str sl])).new ne ht2 (o := .tup [.ref t1])
        have tkx : TK H3 (upd (upd H4 t1 (.tup [.str "give", .str sl])) t2 (.tup [.ref t1])) := ((TK.of_keep k4 o3.chg).trans (TK.of_same (Same.new ht1 _))).trans (TK.of_same (Same.new ht2 _))
        have okg : okRs ⟨false, ws, srcs, srcs ++ ds.map (·.1)⟩ 1 (rs ++ [Td.Row.give sl]) := okRs_append okr (okRs_one (by unfold okR; exact ⟨rfl, slg sl hsl⟩))
        have cg : Lim false (a4.toNat + 1) (rs ++ [Td.Row.give sl]) := ⟨by rw [cnts_append, cnts_one]; show cnts rs + 1 ≤ _; omega, rs, [.give sl], rfl, by omega, .inr ⟨sl, rfl⟩⟩
        refine ⟨ar, t2, ys, [.ref t1], rfl, rfl, SqT.tk tkx hS3, SqT.of upd_same, Nat.le_of_lt (small1000 (by show ys.length + 1 ≤ 1000; omega)), fun e => ?_, fun _ e => (by cases e), fun _ _ t3 ht3 => ?_⟩
        · have er : rs = [] := by
            rw [e] at yl
            exact List.length_eq_zero_iff.mp yl.symm
          refine ⟨_, rs ++ [.give sl], rfl, ps5, okg, cg, ?_⟩
          rw [er]
          exact g2
        · refine ⟨_, rs ++ [.give sl], rfl, ps5.new ne ht3, okg, cg, ?_⟩
          rw [rowsD_append, rowsD_one]
          exact Tn.new (TnAll.append (TnAll.keep tkx hT3) (TnAll.one (Tn.keep (TK.of_same (Same.new ht2 _)) g1))) ht3
      · rintro σ' H3 ⟨rv', rs', rfl, ps3, okr', cr', tr'⟩
        refine ⟨_, rfl, .inl ⟨rfl, _, SqL.of ps3.xA⟩, _, rfl, _, rfl, by show 2 ≤ sizeLine; decide, fun t ht => ?_⟩
        have ps4 := ps3.new ne ht (o := .tup [.str nm, rv'])
        have tp : Tn K (upd H3 t (.tup [.str nm, rv'])) (.ref t) (Td.pairD (nm, rs')) := Tn.new (.cons (.str nm) (TnAll.one tr')) ht
        refine ⟨pD, _, _, rfl, rfl, ps4.xA, small1000 (by omega), ?_⟩
        have ps5 := ps4.app ne tp
        obtain ⟨pc, c1, c2, c3, c4⟩ := ps5.dA
        refine ⟨_, rfl, pd, _, rfl, dget_of c1 (get_cells ..), _, rfl, by show 1 ≤ sizeLine; decide, fun l hl => ?_⟩
        have ps6 := ps5.new ne hl (o := .lst [.str nm])
        refine ⟨pc, l, _, _, rfl, rfl, by rw [upd_ne (ne_of_none c2 hl)]; exact c2, upd_same, Nat.le_of_lt (small1000 ?_), fun l2 hl2 => ?_⟩
        · rw [List.length_map, List.length_append, List.length_map]; show srcs.length + ds.length + 1 ≤ 1000; omega
        have ps7 := ps6.new ne hl2 (o := .lst ((srcs ++ ds.map (·.1)).map V.str ++ [.str nm]))
        obtain ⟨pc', e1, e2, e3, e4⟩ := ps7.dA
        refine ⟨_, rfl, pd, _, rfl, DPut.k (k := Sum.inr "cells") e1 (small1000 (by show 7 ≤ 1000; decide)), ?_⟩
        rw [shp7_cells]
        have er : (srcs ++ ds.map (·.1)).map V.str ++ [V.str nm] = (srcs ++ (ds ++ [(nm, rs')]).map (·.1)).map V.str := by simp
        have ps8 := ps7.put (kd' := .str "derived") (pk' := .bl false) (wr' := .bl false) (rd' := srcs ++ (ds ++ [(nm, rs')]).map (·.1)) (pc' := l2) ne (by rw [upd_same, er])
          (ps6.ok.ne hl2).1 (Ne.symm (ne_of_none ps6.xA hl2))
        refine ⟨_, _, _, _, ds ++ [(nm, rs')], rfl, ps8, by rw [List.length_append, dl]; rfl, ?_, okDer_snoc dok okr' cr'⟩
        rw [List.map_append, dn]
        have hx : i < (ns.drop (1 + ms).toNat).length := by rw [List.length_drop]; omega
        rw [List.take_succ_eq_append_getElem hx, List.getElem_drop, hnm]
        rfl
    · rintro σ H1 ⟨v14, v15, v16, xs, ds, rfl, ps, dl, dn, dok⟩
      -- the shape of effects
      obtain ⟨pc, c1, c2, c3, c4⟩ := ps.dA
      refine ⟨_, rfl, pd, _, rfl, DPut.k (k := Sum.inr "kind") c1 (small1000 (by show 7 ≤ 1000; decide)), ?_⟩
      rw [shp7_kind]
      have ps1 := ps.put (kd' := .str "effects") (pk' := .bl false) (wr' := .bl false) ne c2 c3 c4
      refine ⟨_, rfl, _, rfl, pd, _, rfl, DPut.k (k := Sum.inr "peeks") upd_same (small1000 (by show 7 ≤ 1000; decide)), ?_⟩
      rw [shp7_peeks, upd_upd]
      refine ⟨_, rfl, _, rfl, pd, _, rfl, DPut.k (k := Sum.inr "writes") upd_same (small1000 (by show 7 ≤ 1000; decide)), ?_⟩
      rw [shp7_writes, upd_upd]
      have ps3 := ps.put (kd' := .str "effects") (pk' := .bl pk) (wr' := .bl wr) ne c2 c3 c4
      refine ⟨Nat.zero_le _, fun pE hpE => ?_⟩
      show tSeq _ _ _ _ (upd (upd H1 pd (.dK (shp7 (.str "effects") (.ref pc) (.ref p4) (.ref p2) (.ref aw) (.bl pk) (.bl wr)))) pE (.lst []))
      generalize upd H1 pd (.dK (shp7 (.str "effects") (.ref pc) (.ref p4) (.ref p2) (.ref aw) (.bl pk) (.bl wr))) = H2 at ps3 hpE
      obtain ⟨npE, npEc⟩ := ps3.ok.ne hpE
      have nDE : pD ≠ pE := ne_of_none ps3.xA hpE
      have nE : PNe H st sc aw pN p2 p4 pd pE := ⟨naw, pNs, np2, np4, npd, npE, npdc, npEc, d0, ps3.kp.free npE hpE, ne_of_none ps3.nA hpE, ne_of_none ps3.lA hpE⟩
      have pe0 : PSt K H (upd H2 pE (.lst [])) st sc aw pN p2 p4 pd pE ws srcs slots ns (.str "effects") (.bl pk) (.bl wr) (srcs ++ ds.map (·.1)) [] [] := by
        have pn := ps3.new ne hpE (o := .lst [])
        obtain ⟨pc', e1, e2, e3, e4⟩ := ps3.dA
        exact ⟨pn.kp, pn.ok, pn.wA, pn.sA, pn.nA, pn.lA, ⟨pc', (Keep.new hpE (st := st)) _ _ npd e1, (Keep.new hpE (st := st)) _ _ e3 e2, e3, ne_of_none e2 hpE⟩, upd_same, .nil⟩
      have xl : xs.length = ds.length := by rw [ps.tA.length, List.length_map]
      have ddl : ds.length ≤ 6 := by omega
      refine ⟨_, rfl, me, rfl, by omega, by omega, for_range (lo := 0) (n := me.toNat) (fun i σ H' => ∃ (v14 v16 : Option V) (ys : List V) (es : List (Str × List Td.Row)),
        σ = [some (.ref st), some (.ref z), some (.bl pk), some (.bl wr), some (.int (2 + mw)), some (.int (1 + ms)), some (.int md), some (.int me), some (.ref aw), some (.ref pN), some (.ref p2), some (.ref p4), some (.ref pd), some (.ref pD), v14, v15, v16, some (.ref pE)] ∧
        PSt K H H' st sc aw pN p2 p4 pd pE ws srcs slots ns (.str "effects") (.bl pk) (.bl wr) (srcs ++ ds.map (·.1)) ys es ∧ H' pD = some (.lst xs) ∧ TnAll K H' xs (ds.map Td.pairD) ∧ es.length = i ∧ es.map (·.1) = (ns.drop ((1 + ms).toNat + md.toNat)).take i ∧ okEff ws srcs (srcs ++ ds.map (·.1)) (a4.toNat + 1) es)
        ⟨v14, v16, [], [], rfl, pe0, by rw [upd_ne nDE]; exact ps3.xA, TnAll.keep (TK.of_same (Same.new hpE _)) ps3.tA, rfl, by simp, by unfold okEff; trivial⟩ ?_ ?_⟩
      · rintro i σ H3 hi ⟨v14, v16, ys, es, rfl, pe, sX, sT, el, en, eok⟩
        have hil : (1 + ms).toNat + md.toNat + i < ns.length := by omega
        have hat : atI (ns.map V.str) (1 + ms + md + (0 + (i : Int))) = some (V.str ns[(1 + ms).toNat + md.toNat + i]) := by
          have : atI (ns.map V.str) (((1 + ms).toNat + md.toNat + i : Nat) : Int) = some (V.str ns[(1 + ms).toNat + md.toNat + i]) := atI_nat (by rw [List.getElem?_map, List.getElem?_eq_getElem hil]; rfl)
          rwa [show (((1 + ms).toNat + md.toNat + i : Nat) : Int) = 1 + ms + md + (0 + (i : Int)) by omega] at this
        generalize hnm : ns[(1 + ms).toNat + md.toNat + i] = nm at hat
        have yl : ys.length = es.length := by rw [pe.tA.length, List.length_map]
        have sh := pe.shape (eff := true) nE (fun _ => rfl) (fun _ => rfl) w0 sl0 (by simp [so0]) so0 ⟨w100, by omega, by rw [List.length_append, List.length_map]; omega, sr100⟩ slg
        refine ⟨_, rfl, _, rfl, _, rfl, z, _, 4, _, rfl, rfl, SqL.keep pe.kp nz hz, rfl, st, sc, pd, _, slots, 1, a4, rfl, pe.ok, sh, by decide, by decide, a40, by omega, fun rv rs H4 k4 o4 okr cr tr => ?_⟩
        have pe4 := pe.keep nE k4 o4
        have sX4 := k4 _ _ npD sX
        have sT4 := TnAll.keep (TK.of_keep k4 pe.ok.chg) sT
        refine ⟨fun σ' H' => ∃ (rv' : V) (rs' : List Td.Row), σ' = [some (.ref st), some (.ref z), some (.bl pk), some (.bl wr), some (.int (2 + mw)), some (.int (1 + ms)), some (.int md), some (.int me), some (.ref aw), some (.ref pN), some (.ref p2), some (.ref p4), some (.ref pd), some (.ref pD), some (.int (0 + (i : Int))), v15, some rv', some (.ref pE)] ∧
          PSt K H H' st sc aw pN p2 p4 pd pE ws srcs slots ns (.str "effects") (.bl pk) (.bl wr) (srcs ++ ds.map (·.1)) ys es ∧ H' pD = some (.lst xs) ∧ TnAll K H' xs (ds.map Td.pairD) ∧ okRs ⟨true, ws, srcs, srcs ++ ds.map (·.1)⟩ 1 rs' ∧ Lim true (a4.toNat + 1) rs' ∧ Tn K H' rv' (.tuple (rowsD rs')), ?_, ?_⟩
        · refine ⟨_, rfl, st, sc, 4, rfl, by decide, by decide, o4, fun x H5 x0 x1 k5 o5 _ => ⟨_, _, rfl, rfl, _, rfl, ?_⟩⟩
          have pe5 := pe4.keep nE k5 o5
          have tr5 := Tn.keep (TK.of_keep k5 o4.chg) tr
          have sX5 := k5 _ _ npD sX4
          have sT5 := TnAll.keep (TK.of_keep k5 o4.chg) sT4
          refine ite2 (fun _ => ?_) (fun _ => ⟨rv, rs, rfl, pe5, sX5, sT5, okr, ⟨by omega, rs, [], (List.append_nil rs).symm, by omega, .inl rfl⟩, tr5⟩)
          obtain ⟨ar, us, rfl, hS5, hT5⟩ := Tn.tup_inv tr5
          have ul : us.length = rs.length := by rw [hT5.length, rowsD_length]
          have := cnts_len rs
          refine ⟨_, rfl, _, rfl, _, rfl, st, sc, 3, rfl, by decide, by decide, o5, fun y H6 y0 y1 k6 o6 _ => ?_⟩
          have pe6 := pe5.keep nE k6 o6
          obtain ⟨sl, hsl, esl⟩ := pick (xs := slots) y0 (by rw [List.length_map]; omega)
          refine ⟨p2, _, y, _, rfl, rfl, SqL.of pe6.lA, esl, by show 2 ≤ sizeLine; decide, fun t1 ht1 => ⟨by show 1 ≤ sizeLine; decide, fun t2 ht2 => ?_⟩⟩
          have g1 : Tn K (upd H6 t1 (.tup [.str "say", .str sl])) (.ref t1) (rowD (.say sl)) := by unfold rowD; exact Tn.new (TnAll.strs ["say", sl]) ht1
          have g2 := Tn.new (TnAll.one g1) ht2
          have pe7 := (pe6.new nE ht1 (o := .tup [.str "say", .str sl])).new nE ht2 (o := .tup [.ref t1])
          have kx : Keep st H5 (upd (upd H6 t1 (.tup [.str "say", .str sl])) t2 (.tup [.ref t1])) := (k6.trans (Keep.new ht1)).trans (Keep.new ht2)
          have tkx := TK.of_keep kx o5.chg
          have sX7 := kx _ _ npD sX5
          have sT7 := TnAll.keep tkx sT5
          have okg : okRs ⟨true, ws, srcs, srcs ++ ds.map (·.1)⟩ 1 (rs ++ [Td.Row.say sl]) := okRs_append okr (okRs_one (by unfold okR; exact ⟨rfl, slg sl hsl⟩))
          have cg : Lim true (a4.toNat + 1) (rs ++ [Td.Row.say sl]) := ⟨by rw [cnts_append, cnts_one]; show cnts rs + 1 ≤ _; omega, rs, [.say sl], rfl, by omega, .inr ⟨sl, rfl⟩⟩
          refine ⟨ar, t2, us, [.ref t1], rfl, rfl, SqT.tk tkx hS5, SqT.of upd_same, Nat.le_of_lt (small1000 (by show us.length + 1 ≤ 1000; omega)), fun e => ?_, fun _ e => (by cases e), fun _ _ t3 ht3 => ?_⟩
          · have er : rs = [] := by
              rw [e] at ul
              exact List.length_eq_zero_iff.mp ul.symm
            refine ⟨_, rs ++ [.say sl], rfl, pe7, sX7, sT7, okg, cg, ?_⟩
            rw [er]
            exact g2
          · refine ⟨_, rs ++ [.say sl], rfl, pe7.new nE ht3, (Keep.new ht3 (st := st)) _ _ npD sX7, TnAll.keep (TK.of_same (Same.new ht3 _)) sT7, okg, cg, ?_⟩
            rw [rowsD_append, rowsD_one]
            exact Tn.new (TnAll.append (TnAll.keep tkx hT5) (TnAll.one (Tn.keep (TK.of_same (Same.new ht2 _)) g1))) ht3
        · rintro σ' H5 ⟨rv', rs', rfl, pe5, sX5, sT5, okr', cr', tr'⟩
          refine ⟨_, rfl, .inl ⟨rfl, _, SqL.of pe5.xA⟩, _, rfl, _, rfl, _, rfl, _, _, rfl, rfl, _, rfl, _, _, rfl, rfl, pN, _, _, _, rfl, rfl, SqL.of pe5.nA, hat, _, rfl, by show 2 ≤ sizeLine; decide, fun t ht => ?_⟩
          have pe6 := pe5.new nE ht (o := .tup [.str nm, rv'])
          have tp : Tn K (upd H5 t (.tup [.str nm, rv'])) (.ref t) (Td.pairD (nm, rs')) := Tn.new (.cons (.str nm) (TnAll.one tr')) ht
          refine ⟨pE, _, _, rfl, rfl, pe6.xA, small1000 (by omega), ?_⟩
          have pe7 := pe6.app nE tp
          have sX6 : upd H5 t (.tup [.str nm, rv']) pD = some (.lst xs) := (Keep.new ht (st := st)) _ _ npD sX5
          have sT6 := TnAll.keep (TK.of_same (Same.new ht (.tup [.str nm, rv']))) sT5
          refine ⟨_, _, _, es ++ [(nm, rs')], rfl, pe7, by rw [upd_ne nDE]; exact sX6, TnAll.keep (TK.upd (by rw [pe6.xA]; trivial)) sT6, by rw [List.length_append, el]; rfl, ?_, okEff_snoc eok okr' cr'⟩
          rw [List.map_append, en]
          have hx : i < (ns.drop ((1 + ms).toNat + md.toNat)).length := by rw [List.length_drop]; omega
          rw [List.take_succ_eq_append_getElem hx, List.getElem_drop, hnm]
          rfl
      · rintro σ H3 ⟨v14, v16, ys, es, rfl, pe, sX, sT, el, en, eok⟩
        have yl : ys.length = es.length := by rw [pe.tA.length, List.length_map]
        refine ⟨_, rfl, _, rfl, _, rfl, pD, _, rfl, .inl ⟨SqL.of sX, fun t1 ht1 => ?_⟩⟩
        have pe1 := pe.new nE ht1 (o := .tup xs)
        refine ⟨_, rfl, pE, _, rfl, .inl ⟨SqL.of pe1.xA, fun t2 ht2 => ?_⟩⟩
        have pe2 := pe1.new nE ht2 (o := .tup ys)
        refine ⟨by show 4 ≤ sizeLine; decide, fun t3 ht3 => ?_⟩
        have pe3 := pe2.new nE ht3 (o := .tup [.ref aw, .ref p4, .ref t1, .ref t2])
        have tD : Tn K (upd (upd H3 t1 (.tup xs)) t2 (.tup ys)) (.ref t1) (pairsD ds) := Tn.keep (TK.of_same (Same.new ht2 _)) (Tn.new sT ht1)
        have tE : Tn K (upd (upd H3 t1 (.tup xs)) t2 (.tup ys)) (.ref t2) (pairsD es) := Tn.new pe1.tA ht2
        refine q _ ⟨ws, srcs, ds, es⟩ _ pe3.kp pe3.ok ⟨by show 2 ≤ ws.length; omega, by show ws.length ≤ 4; omega, by show 1 ≤ srcs.length; omega, by show srcs.length ≤ 4; omega, ddl, by show es.length ≤ 4; omega, wN, ?_, dok, eok⟩ ?_
        · have e : PP.names ⟨ws, srcs, ds, es⟩ = ns := by
            show srcs ++ ds.map (·.1) ++ es.map (·.1) = ns
            rw [dn, en, ← hse]
            have h1 := List.take_append_drop (1 + ms).toNat ns
            have h2 := List.take_append_drop md.toNat (ns.drop (1 + ms).toNat)
            rw [List.drop_drop] at h2
            have h3 : (ns.drop ((1 + ms).toNat + md.toNat)).take me.toNat = ns.drop ((1 + ms).toNat + md.toNat) := List.take_of_length_le (by rw [List.length_drop]; omega)
            rw [h3, List.append_assoc, h2, h1]
          rw [e]; exact nN
        · exact Tn.new (.cons (.tup pe2.wA (TnAll.strs ws)) (.cons (.tup pe2.sA (TnAll.strs srcs)) (.cons tD (TnAll.one tE)))) ht3
end
end K41
namespace K41
open PySem PySem.Spec PyProof.Rows L2 Td
/-! ### names and pairs that are right -/
def spIsName : Sp := fun vs H Q _ => ∃ z, vs = [.str z] ∧ isNm z = true ∧ ∀ H', Same H H' → Q (.bl true) H'
def spAreNames (K : PySem.W.Frag) : Sp := fun vs H Q _ => ∃ (a : Addr) (zs : List Str) (l m : Int), vs = [.ref a, .int l, .int m] ∧ SqT K H a (zs.map V.str) ∧ Names zs ∧ l ≤ zs.length ∧ (zs.length : Int) ≤ m ∧ zs.length ≤ 100 ∧
  ∀ H', Same H H' → Q (.bl true) H'
def spNamedPairs (K : PySem.W.Frag) : Sp := fun vs H Q _ => ∃ (v : V) (tk : Addr) (ps : List (Str × List Td.Row)) (ts : List Str) (m : Int), vs = [v, .int m, .ref tk] ∧ Tn K H v (pairsD ps) ∧ SqT K H tk (ts.map V.str) ∧
  Names (ts ++ ps.map (·.1)) ∧ (ps.length : Int) ≤ m ∧ ps.length ≤ 100 ∧ ts.length ≤ 100 ∧ ∀ H', Same H H' → Q (.bl true) H'
def spNamesOf (K : PySem.W.Frag) : Sp := fun vs H Q _ => ∃ (v : V) (ps : List (Str × List Td.Row)), vs = [v] ∧ Tn K H v (pairsD ps) ∧ ps.length ≤ 100 ∧
  ∀ (p : Addr) H', Same H H' → SqT K H' p (ps.map fun q => V.str q.1) → Q (.ref p) H'
theorem isNm_len {z : Str} (h : isNm z = true) : 1 ≤ z.length ∧ z.length ≤ 8 ∧ z.cps.toList.all lowc = true := by
  unfold isNm at h
  simp only [Bool.and_eq_true, decide_eq_true_eq] at h
  exact ⟨h.1.1, h.1.2, h.2⟩
theorem ty_tup {K : PySem.W.Frag} {H : Hp} {a : Addr} {xs : List V} (h : SqT K H a xs) : TyX K H (.ref a) (.type "tuple") := by
  rcases h with (h | ⟨o, h⟩) | ⟨o, its, n, h, c, _⟩
  · exact .base (.tup h)
  · exact .fTuple h
  · exact .kTuple h c
/-- the pairs' items -/
theorem pairs_at {K : PySem.W.Frag} {H : Hp} {v : V} {ps : List (Str × List Td.Row)} (h : Tn K H v (pairsD ps)) : ∃ (a : Addr) (xs : List V), v = .ref a ∧ SqT K H a xs ∧ xs.length = ps.length ∧
    ∀ (i : Nat) (x : V), xs[i]? = some x → ∃ (q : Str × List Td.Row) (b : Addr) (vr : V), ps[i]? = some q ∧ x = .ref b ∧ SqT K H b [.str q.1, vr] ∧ Tn K H vr (.tuple (rowsD q.2)) := by
  obtain ⟨a, xs, rfl, hS, hT⟩ := Tn.tup_inv h
  have hl := hT.length
  rw [List.length_map] at hl
  refine ⟨a, xs, rfl, hS, hl, fun i x hx => ?_⟩
  have hi : i < ps.length := by rw [← hl]; exact (List.getElem?_eq_some_iff.mp hx).1
  obtain ⟨d, h1, h2⟩ := TnAll.get hT hx
  rw [List.getElem?_map, List.getElem?_eq_getElem hi] at h1
  cases h1
  obtain ⟨b, ys, rfl, hS2, hT2⟩ := Tn.tup_inv h2
  cases hT2 with
  | cons c1 c2 =>
    cases c1
    cases c2 with
    | cons c3 c4 =>
      cases c4
      exact ⟨_, b, _, List.getElem?_eq_getElem hi, rfl, hS2, c3⟩
section
variable {P : Program} {w : World} {K : PySem.W.Frag} {mg : Str → Option Value} {base : Heap}
theorem ok_is_name (T : Tops w K mg) : FnOk P w K mg base CX0 1 T.a_is_name T.d_is_name ["value"] spIsName := by
  refine T.F_is_name.ok sc_is_name (fun vs H Q E h => ?_) (fun cdv A outer s H vs Q E hr h => ?_)
  · obtain ⟨z, rfl, _⟩ := h
    rfl
  obtain ⟨z, rfl, hz, q⟩ := h
  obtain ⟨z1, z8, zl⟩ := isNm_len hz
  refine ⟨_, (pss_cons (ps_if (PW.pt (pw_or (pt_not (pt_val (pe_callB call_isi rfl T.z_isinstance (by decide +kernel) (pa_cons (pv 0) (pa_cons (pe_bltn (v := .ty "str") rfl T.z_str (by decide +kernel) rfl) pa_nil))))) (pw_or1 (pt_not (pt_chain op_le op_le pe_int (pe_callB call_len rfl T.z_len PySem.boot_len (pa_cons (pv 0) pa_nil)) (pe_glob (v := .int 8) rfl T.c_LONGEST_NAME ⟨_, rfl⟩)))))) (pss_one (ps_ret pe_bl)) pss_nil)
    (pss_one (ps_ret (pe_callB (cr_all rfl) rfl T.z_all (by decide +kernel) (pa_cons (pe_lc (own := [("letter", 1)]) (g := gName 1) (tt := tYes) rfl sc_is_name.nd (pi_str (pv 0)) (blkOk_by (own := [("letter", 1)]) (N := N_is_name) (sc := defScope s_is_name) (by decide +kernel)) (fun _ _ _ _ _ => (pg_name (i := 1) sc_is_name.nd rfl (Or.inl rfl))) (fun _ _ _ _ _ => pts_nil) (fun _ _ _ _ _ => (pe_chain op_le_str op_le_str pe_str (pv 1) pe_str))) pa_nil))))), ?_⟩
  have zs : z.length ≤ sizeLine := Nat.le_of_lt (small1000 (by omega))
  refine ⟨_, rfl, .str z, .ty "str", .type "str", .type "str", true, rfl, .ty _, .base (.str z), kit_ty (by decide +kernel), true, rfl, iteF ?_⟩
  refine ⟨_, rfl, .str z, _, rfl, ⟨zs, rfl⟩, _, _, rfl, rfl, _, rfl, ?_⟩
  have e1 : decide ((1 : Int) ≤ (z.length : Int)) = true := decide_eq_true (by omega)
  refine if_true_of e1 ?_
  have e2 : decide ((z.length : Int) ≤ (8 : Int)) = true := decide_eq_true (by omega)
  refine ⟨_, _, rfl, rfl, _, rfl, ?_⟩
  refine if_false_of (by rw [e2]; rfl) ?_
  -- all([..])
  refine ⟨_, rfl, z, rfl, fun D hD => lc_str (fun i H' => ∃ bs : List Bool, Same H H' ∧ H' D = some (.lst (bs.map V.bl)) ∧ bs.length = i ∧ bs.all id = true) ⟨[], Same.new hD _, upd_same, rfl, rfl⟩ ?_ ?_⟩
  · rintro i c H' hc ⟨bs, hs, hb, hl, ha⟩
    have hlow : lowc c = true := by
      rw [List.all_eq_true] at zl
      exact zl c (by rw [Array.mem_toList_iff]; exact Array.mem_of_getElem? hc)
    unfold lowc at hlow
    simp only [Bool.and_eq_true, decide_eq_true_eq] at hlow
    have na : ("a" : Str).cps.toList = [97] := by decide +kernel
    have nz : ("z" : Str).cps.toList = [122] := by decide +kernel
    have k1 : (!decide ((⟨#[c]⟩ : Str).cps.toList < ("a" : Str).cps.toList)) = true := by
      rw [na]
      show (!decide ([c] < [97])) = true
      simp [List.cons_lt_cons_iff]
      omega
    have k2 : (!decide (("z" : Str).cps.toList < (⟨#[c]⟩ : Str).cps.toList)) = true := by
      rw [nz]
      show (!decide ([122] < [c])) = true
      simp [List.cons_lt_cons_iff]
      omega
    have hic : i < z.cps.size := (Array.getElem?_eq_some_iff.mp hc).1
    have hz8 : z.cps.size ≤ 8 := z8
    refine ⟨rfl, ?_⟩
    refine tYes_of ?_
    refine ⟨_, rfl, _, _, rfl, rfl, _, rfl, if_true_of k1 ?_⟩
    refine ⟨_, _, rfl, rfl, _, hb, small1000 (by rw [List.length_map]; omega), bs ++ [true], ?_, ?_, by rw [List.length_append, hl]; rfl, ?_⟩
    · intro b o e
      rw [upd_ne (ne_of_none e hD)]
      exact hs b o e
    · rw [upd_same, k2, List.map_append]; rfl
    · rw [List.all_append, ha]; rfl
  · rintro H' ⟨bs, hs, hb, hl, ha⟩
    refine ⟨D, bs, rfl, SqL.of hb, ?_⟩
    rw [ha]
    exact q H' hs
end
end K41
namespace K41
open PySem PySem.Spec PyProof.Rows L2 Td TL
def abcL : Str := "abcdefghijklmnopqrstuvwxyz"
theorem abc_in (c : Nat) : (!(Builtin.Str.occurrences abcL ⟨#[c]⟩ 0 abcL.length 1).isEmpty) = lowc c := by
  have h : (!(Builtin.Str.occurrences abcL ⟨#[c]⟩ 0 abcL.length 1).isEmpty) = true ↔ lowc c = true := by
    rw [StrLaws.found_iff]
    have e : abcL.cps.toList = List.range' 97 26 := by decide +kernel
    constructor
    · rintro ⟨i, hi⟩
      have h2 := (StrLaws.subAt_one abcL c i).mp hi
      have hm := List.mem_of_getElem? h2
      rw [e, List.mem_range'_1] at hm
      unfold lowc
      rw [decide_eq_true hm.1, decide_eq_true (by omega : c ≤ 122)]
      rfl
    · intro hl
      unfold lowc at hl
      simp only [Bool.and_eq_true, decide_eq_true_eq] at hl
      have hm : c ∈ abcL.cps.toList := by rw [e, List.mem_range'_1]; omega
      obtain ⟨i, hi⟩ := List.getElem?_of_mem hm
      exact ⟨i, (StrLaws.subAt_one abcL c i).mpr hi⟩
  cases hb : lowc c with
  | true => exact h.mpr hb
  | false =>
    cases ha : (!(Builtin.Str.occurrences abcL ⟨#[c]⟩ 0 abcL.length 1).isEmpty) with
    | false => rfl
    | true => rw [h.mp ha] at hb; cases hb
theorem filter_low (l : List Nat) : decide (V.int ((l.filter lowc).length : Nat) = V.int (l.length : Nat)) = l.all lowc := by
  by_cases h : l.all lowc = true
  · rw [List.filter_eq_self.mpr (List.all_eq_true.mp h), h]
    exact decide_eq_true rfl
  · have h' : l.all lowc = false := by simpa using h
    rw [h']
    refine decide_eq_false fun e => h ?_
    have e2 : (l.filter lowc).length = l.length := by injection e with e; omega
    exact List.all_eq_true.mpr (List.length_filter_eq_length_iff.mp e2)
/-! ### deeds and their words -/
inductive De
  | rd (c : Str)
  | wr (s w : Str)
  | bt (ps : List (Str × Str))
def De.words : De → List Str
  | .rd c => ["read", c]
  | .wr s w => ["write", s, w]
  | .bt ps => "batch" :: flat2 Prod.fst Prod.snd ps
def wpD (p : Str × Str) : PyData := .tuple [.str p.1, .str p.2]
def De.data : De → PyData
  | .rd c => .tuple [.str "read", .str c]
  | .wr s w => .tuple [.str "write", .str s, .str w]
  | .bt ps => .tuple [.str "batch", .tuple (ps.map wpD)]
def pairUp : List Str → List (Str × Str)
  | a :: b :: r => (a, b) :: pairUp r
  | _ => []
/-- what a line with these words says -/
def saidF : List Str → Option De
  | [] => none
  | h :: t => if t.all isNm = false then none else if h = "write" ∧ t.length = 2 ∨ h = "read" ∧ t.length = 1 then (match t with
      | [s, w] => some (.wr s w)
      | [c] => some (.rd c)
      | _ => none)
    else if h ≠ "batch" ∨ t.length = 0 ∨ t.length % 2 = 1 then none else if ((pairUp t).map (·.1)).Nodup then some (.bt (pairUp t)) else none
def De.Good : De → Prop
  | .rd c => isNm c = true
  | .wr s w => isNm s = true ∧ isNm w = true
  | .bt ps => ps ≠ [] ∧ ps.length ≤ 4 ∧ (∀ p ∈ ps, isNm p.1 = true ∧ isNm p.2 = true) ∧ (ps.map (·.1)).Nodup
theorem pairUp_flat : ∀ ps : List (Str × Str), pairUp (flat2 Prod.fst Prod.snd ps) = ps
  | [] => rfl
  | p :: ps => by
    show (p.1, p.2) :: pairUp (flat2 Prod.fst Prod.snd ps) = p :: ps
    rw [pairUp_flat ps]
theorem flat_pairUp : ∀ (t : List Str), t.length % 2 = 0 → flat2 Prod.fst Prod.snd (pairUp t) = t
  | [], _ => rfl
  | [_], h => by simp at h
  | a :: b :: r, h => by
    show a :: b :: flat2 Prod.fst Prod.snd (pairUp r) = a :: b :: r
    rw [flat_pairUp r (by simp only [List.length_cons] at h; omega)]
theorem flat_nm {ps : List (Str × Str)} (h : ∀ p ∈ ps, isNm p.1 = true ∧ isNm p.2 = true) : (flat2 Prod.fst Prod.snd ps).all isNm = true := by
  rw [List.all_eq_true]
  intro z hz
  unfold flat2 at hz
  obtain ⟨p, hp, hz⟩ := List.mem_flatMap.mp hz
  obtain ⟨h1, h2⟩ := h p hp
  simp only [List.mem_cons, List.not_mem_nil, or_false] at hz
  rcases hz with rfl | rfl
  · exact h1
  · exact h2
theorem said_words : ∀ {d : De}, d.Good → saidF d.words = some d
  | .rd c, h => by
    show (if [c].all isNm = false then none else _) = _
    have : [c].all isNm = true := by rw [List.all_cons, show isNm c = true from h]; rfl
    rw [this, if_neg (by decide), if_pos (.inr ⟨rfl, rfl⟩)]
  | .wr s w, h => by
    show (if [s, w].all isNm = false then none else _) = _
    have : [s, w].all isNm = true := by rw [List.all_cons, List.all_cons, h.1, h.2]; rfl
    rw [this, if_neg (by decide), if_pos (.inl ⟨rfl, rfl⟩)]
  | .bt ps, h => by
    obtain ⟨h1, h2, h3, h4⟩ := h
    show (if (flat2 Prod.fst Prod.snd ps).all isNm = false then none else _) = _
    rw [flat_nm h3, if_neg (by decide), if_neg (by rintro (⟨h, _⟩ | ⟨h, _⟩) <;> exact absurd h (by decide)), flat2_len, pairUp_flat]
    have l := List.length_pos_iff.mpr h1
    rw [if_neg (by rintro (h | h | h); exact h rfl; omega; omega), if_pos h4]
/-! ### lines -/
def sp1 : Str := " "
def nl1 : Str := "\n"
theorem tl_sp : tl sp1 = [32] := by decide +kernel
theorem tl_nl : tl nl1 = [10] := by decide +kernel
theorem small_sp : sp1.cps.all (· < 256) = true := by decide +kernel
theorem small_nl : nl1.cps.all (· < 256) = true := by decide +kernel
def lineOf (d : De) : Str := Txt.join sp1 d.words
theorem nm_free {z : Str} (h : isNm z = true) {c : Nat} (hc : c < 97) : c ∉ tl z := fun m => by
  unfold isNm at h
  simp only [Bool.and_eq_true] at h
  have := List.all_eq_true.mp h.2 c m
  unfold lowc at this
  rw [decide_eq_false (by omega : ¬ 97 ≤ c)] at this
  cases this
theorem words_free {d : De} (g : d.Good) {c : Nat} (hc : c < 97) : ∀ z ∈ d.words, c ∉ tl z := fun z hz => by
  have k : ∀ x : Str, x = "read" ∨ x = "write" ∨ x = "batch" → c ∉ tl x := fun x hx => by
    rcases hx with rfl | rfl | rfl <;> (intro m; exact nm_free (by decide +kernel) hc m)
  cases d with
  | rd n =>
    simp only [De.words, List.mem_cons, List.not_mem_nil, or_false] at hz
    rcases hz with rfl | rfl
    · exact k _ (.inl rfl)
    · exact nm_free g hc
  | wr s w =>
    simp only [De.words, List.mem_cons, List.not_mem_nil, or_false] at hz
    rcases hz with rfl | rfl | rfl
    · exact k _ (.inr (.inl rfl))
    · exact nm_free g.1 hc
    · exact nm_free g.2 hc
  | bt ps =>
    rcases List.mem_cons.mp hz with rfl | hz
    · exact k _ (.inr (.inr rfl))
    · exact nm_free (List.all_eq_true.mp (flat_nm g.2.2.1) z hz) hc
theorem words_ne (d : De) : d.words ≠ [] := by cases d <;> simp [De.words]
theorem split_line {d : De} (g : d.Good) : Txt.split (lineOf d) sp1 = d.words := split_join tl_sp small_sp (words_ne d) (words_free g (by decide))
theorem said_line {d : De} (g : d.Good) : saidF (Txt.split (lineOf d) sp1) = some d := by rw [split_line g, said_words g]
/-- the lines of a text, each ended -/
def linesF (t : Str) : List Str := (Txt.split t nl1).dropLast
/-- line by line; the first bad line's number -/
def goF : Nat → List Str → List De → Except Nat (List De)
  | _, [], acc => .ok acc
  | i, l :: ls, acc => match saidF (Txt.split l sp1) with
    | none => .error (i + 1)
    | some d => goF (i + 1) ls (acc ++ [d])
def parseF (t : Str) : Except Nat (List De) := if tl t = [] then .ok [] else if (tl t).getLast? = some 10 then goF 0 (linesF t) [] else .error 0
theorem spl_end : ∀ (l acc : List Nat), spl [10] 0 acc (l ++ [10]) = spl [10] 0 acc l ++ [[]]
  | [], acc => by
    rw [List.nil_append, spl_hit (by decide), spl_nil, spl_nil]
    rfl
  | c :: l, acc => by
    by_cases h : c = 10
    · subst h
      rw [List.cons_append, spl_hit (by rfl), spl_hit (by rfl)]
      show acc :: spl [10] 0 [] (l ++ [10]) = acc :: spl [10] 0 [] l ++ [[]]
      rw [spl_end l []]
      rfl
    · have p1 : ∀ r, pre [10] (c :: r) = false := fun r => pre_of_head [] r h
      rw [List.cons_append, spl_miss (p1 _), spl_miss (p1 _)]
      exact spl_end l (acc ++ [c])
theorem split_nl (t : Str) : (Txt.split t nl1).map tl = spl [10] 0 [] (tl t) := by
  rw [split_spl t nl1 (by rw [tl_nl]; simp) (kind_ok small_nl), tl_nl]
/-- a text that ends with a newline, without it -/
theorem split_cut {t u : Str} (h : tl t = tl u ++ [10]) : Txt.split u nl1 = linesF t := by
  refine map_tl_inj ?_
  unfold linesF
  rw [List.map_dropLast, split_nl, split_nl, h, spl_end, List.dropLast_concat]
def textOf (ls : List Str) : Str := Txt.join Str.empty (ls.map fun l => l ++ nl1)
theorem tl_text : ∀ ls : List Str, tl (textOf ls) = ls.flatMap fun l => tl l ++ [10]
  | [] => by decide +kernel
  | l :: ls => by
    have ih := tl_text ls
    unfold textOf at ih ⊢
    rw [join_eq, tl_join] at ih ⊢
    have e0 : tl Str.empty = [] := by decide +kernel
    rw [e0] at ih ⊢
    rw [List.flatMap_cons, ← ih, List.map_cons, List.map_cons, tl_append, tl_nl]
    cases ls with
    | nil => show tl l ++ [10] = tl l ++ [10] ++ joinL [] []; simp [joinL]
    | cons m ls => rfl
theorem spl_text : ∀ (ls : List Str), (∀ l ∈ ls, 10 ∉ tl l) → spl [10] 0 [] (ls.flatMap fun l => tl l ++ [10]) = ls.map tl ++ [[]]
  | [], _ => by rw [List.flatMap_nil, spl_nil]; rfl
  | l :: ls, h => by
    rw [List.flatMap_cons, List.append_assoc, spl_part1 (h l List.mem_cons_self), spl_text ls fun x hx => h x (List.mem_cons_of_mem _ hx)]
    rfl
theorem join_free : ∀ (L : List (List Nat)), (∀ l ∈ L, 10 ∉ l) → 10 ∉ joinL [32] L
  | [], _ => by simp [joinL]
  | [l], h => h l List.mem_cons_self
  | l :: r :: L, h => by
    show 10 ∉ l ++ ([32] ++ joinL [32] (r :: L))
    intro m
    rcases List.mem_append.mp m with m | m
    · exact h l List.mem_cons_self m
    · rcases List.mem_append.mp m with m | m
      · exact absurd (List.mem_singleton.mp m) (by decide)
      · exact join_free (r :: L) (fun x hx => h x (List.mem_cons_of_mem _ hx)) m
theorem lines_text {ls : List Str} (h : ∀ l ∈ ls, 10 ∉ tl l) : linesF (textOf ls) = ls := by
  refine map_tl_inj ?_
  unfold linesF
  rw [List.map_dropLast, split_nl, tl_text]
  rw [spl_text ls h, List.dropLast_concat]
theorem go_good : ∀ (ds acc : List De) (i : Nat), (∀ d ∈ ds, d.Good) → goF i (ds.map lineOf) acc = .ok (acc ++ ds)
  | [], acc, i, _ => by rw [List.append_nil]; rfl
  | d :: ds, acc, i, h => by
    rw [List.map_cons]
    unfold goF
    rw [said_line (h d List.mem_cons_self)]
    show goF (i + 1) (ds.map lineOf) (acc ++ [d]) = _
    rw [go_good ds (acc ++ [d]) (i + 1) fun x hx => h x (List.mem_cons_of_mem _ hx), List.append_assoc]
    rfl
theorem line_free {d : De} (g : d.Good) : 10 ∉ tl (lineOf d) := fun m => by
  unfold lineOf at m
  rw [join_eq, tl_join, tl_sp] at m
  refine join_free _ (fun l hl => ?_) m
  obtain ⟨z, hz, rfl⟩ := List.mem_map.mp hl
  exact words_free g (by decide) z hz
theorem parse_text {ds : List De} (h : ∀ d ∈ ds, d.Good) : parseF (textOf (ds.map lineOf)) = .ok ds := by
  unfold parseF
  cases ds with
  | nil => rw [if_pos (by rw [tl_text]; rfl)]
  | cons d ds =>
    have e : tl (textOf ((d :: ds).map lineOf)) ≠ [] := by rw [tl_text]; simp
    have e2 : (tl (textOf ((d :: ds).map lineOf))).getLast? = some 10 := by
      rw [tl_text]
      have : ∀ (L : List Str), L ≠ [] → (L.flatMap fun l => tl l ++ [10]).getLast? = some 10 := fun L hL => by
        obtain ⟨M, x, rfl⟩ : ∃ M x, L = M ++ [x] := ⟨_, _, (List.dropLast_concat_getLast hL).symm⟩
        rw [List.flatMap_append, List.flatMap_singleton, ← List.append_assoc, List.getLast?_concat]
      exact this _ (by simp)
    rw [if_neg e, if_pos e2, lines_text (fun l hl => by obtain ⟨x, hx, rfl⟩ := List.mem_map.mp hl; exact line_free (h x hx)), go_good _ [] 0 h]
    rfl
def spIsNameS : Sp := fun vs H Q _ => ∃ z : Str, vs = [.str z] ∧ z.length ≤ sizeLine ∧ ∀ H', Same H H' → Q (.bl (isNm z)) H'
section
variable {P : Program} {w : World} {K : PySem.W.Frag} {mg : Str → Option Value} {base : Heap}
theorem ok_is_nameS (T : Tops w K mg) : FnOk P w K mg base CX0 1 T.a_is_name T.d_is_name ["value"] spIsNameS := by
  refine T.F_is_name.ok sc_is_name (fun vs H Q E h => ?_) (fun cdv A outer s H vs Q E hr h => ?_)
  · obtain ⟨z, rfl, _⟩ := h
    rfl
  obtain ⟨z, rfl, zs, q⟩ := h
  refine ⟨_, (pss_cons (ps_if (PW.pt (pw_or (pt_not (pt_val (pe_callB call_isi rfl T.z_isinstance (by decide +kernel) (pa_cons (pv 0) (pa_cons (pe_bltn (v := .ty "str") rfl T.z_str (by decide +kernel) rfl) pa_nil))))) (pw_or1 (pt_not (pt_chain op_le op_le pe_int (pe_callB call_len rfl T.z_len PySem.boot_len (pa_cons (pv 0) pa_nil)) (pe_glob (v := .int 8) rfl T.c_LONGEST_NAME ⟨_, rfl⟩)))))) (pss_one (ps_ret pe_bl)) pss_nil)
    (pss_one (ps_ret (pe_callB (cr_all rfl) rfl T.z_all (by decide +kernel) (pa_cons (pe_lc (own := [(("letter" : Str), 1)]) (wi := (iStr (tVar 0))) (g := gName 1) (tt := tYes) (te := (tChain (fun x y H Q => ∃ i j, x = .str i ∧ y = .str j ∧ Q (.bl (!decide (j.cps.toList < i.cps.toList))) H) (fun x y H Q => ∃ i j, x = .str i ∧ y = .str j ∧ Q (.bl (!decide (j.cps.toList < i.cps.toList))) H) (tC (.str "a")) (tVar 1) (tC (.str "z")))) rfl sc_is_name.nd (pi_str (pv 0)) (blkOk_by (own := [(("letter" : Str), 1)]) (N := N_is_name) (sc := defScope s_is_name) (by decide +kernel)) (fun _ _ _ _ _ => (pg_name (i := 1) sc_is_name.nd rfl (Or.inl rfl))) (fun _ _ _ _ _ => pts_nil) (fun _ _ _ _ _ => (pe_chain op_le_str op_le_str pe_str (pv 1) pe_str))) pa_nil))))), ?_⟩
  refine ⟨_, rfl, .str z, .ty "str", .type "str", .type "str", true, rfl, .ty _, .base (.str z), kit_ty (by decide +kernel), true, rfl, iteF ?_⟩
  refine ⟨_, rfl, .str z, _, rfl, ⟨zs, rfl⟩, _, _, rfl, rfl, _, rfl, ?_⟩
  by_cases c1 : 1 ≤ z.length
  · have e1 : decide ((1 : Int) ≤ (z.length : Int)) = true := decide_eq_true (by omega)
    refine if_true_of e1 ?_
    refine ⟨_, _, rfl, rfl, _, rfl, ?_⟩
    by_cases c8 : z.length ≤ 8
    · have e2 : decide ((z.length : Int) ≤ (8 : Int)) = true := decide_eq_true (by omega)
      refine if_false_of (by rw [e2]; rfl) ?_
      have ez : isNm z = z.cps.toList.all lowc := by
        unfold isNm
        rw [decide_eq_true c1, decide_eq_true c8]
        rfl
      refine ⟨_, rfl, z, rfl, fun D hD => lc_str (fun i H' => Same H H' ∧ H' D = some (.lst (((z.cps.toList.take i).map lowc).map V.bl))) ⟨Same.new hD _, upd_same⟩ ?_ ?_⟩
      · rintro i c H' hc ⟨hs', hb⟩
        have na : ("a" : Str).cps.toList = [97] := by decide +kernel
        have nz : ("z" : Str).cps.toList = [122] := by decide +kernel
        have hct : z.cps.toList[i]? = some c := by rw [Array.getElem?_toList]; exact hc
        have hic : i < z.cps.toList.length := (List.getElem?_eq_some_iff.mp hct).1
        have hz8 : z.cps.toList.length ≤ 8 := c8
        have k1 : (!decide ((⟨#[c]⟩ : Str).cps.toList < ("a" : Str).cps.toList)) = decide (97 ≤ c) := by
          rw [na]
          show (!decide ([c] < [97])) = _
          by_cases h : 97 ≤ c
          · simp [List.cons_lt_cons_iff, h]
          · have h' : c < 97 := by omega
            simp [List.cons_lt_cons_iff, h, h']
        have k2 : (!decide (("z" : Str).cps.toList < (⟨#[c]⟩ : Str).cps.toList)) = decide (c ≤ 122) := by
          rw [nz]
          show (!decide ([122] < [c])) = _
          by_cases h : c ≤ 122
          · simp [List.cons_lt_cons_iff, h]
          · have h' : 122 < c := by omega
            simp [List.cons_lt_cons_iff, h, h']
        have next : Same H (upd H' D (.lst (((z.cps.toList.take i).map lowc).map V.bl ++ [.bl (lowc c)]))) ∧ upd H' D (.lst (((z.cps.toList.take i).map lowc).map V.bl ++ [.bl (lowc c)])) D = some (.lst (((z.cps.toList.take (i + 1)).map lowc).map V.bl)) :=
          ⟨own_same hs' hD, by rw [upd_same, take_more hct, List.map_append, List.map_append]; rfl⟩
        refine ⟨rfl, ?_⟩
        refine tYes_of ?_
        refine ⟨_, rfl, _, _, rfl, rfl, _, rfl, ?_⟩
        by_cases h1 : 97 ≤ c
        · refine if_true_of (k1.trans (decide_eq_true h1)) ?_
          refine ⟨_, _, rfl, rfl, _, hb, small1000 (by rw [List.length_map, List.length_map, List.length_take]; omega), ?_⟩
          have e : lowc c = (!decide (("z" : Str).cps.toList < (⟨#[c]⟩ : Str).cps.toList)) := by rw [k2]; unfold lowc; rw [decide_eq_true h1]; rfl
          rw [e] at next
          exact next
        · refine if_false_of (k1.trans (decide_eq_false h1)) ?_
          refine ⟨_, hb, small1000 (by rw [List.length_map, List.length_map, List.length_take]; omega), ?_⟩
          have e : lowc c = false := by unfold lowc; rw [decide_eq_false h1]; rfl
          rw [e] at next
          exact next
      · rintro H' ⟨hs', hb⟩
        have hb' : H' D = some (.lst ((z.cps.toList.map lowc).map V.bl)) := by
          rw [List.take_of_length_le (by rw [Array.length_toList]; exact Nat.le_refl _)] at hb
          exact hb
        refine ⟨D, _, rfl, SqL.of hb', ?_⟩
        have e : ((z.cps.toList.map lowc).all id) = isNm z := by rw [ez, List.all_map]; rfl
        rw [e]
        exact q H' hs'
    · have e2 : decide ((z.length : Int) ≤ (8 : Int)) = false := decide_eq_false (by omega)
      refine if_true_of (by rw [e2]; rfl) ?_
      have ez : isNm z = false := by
        show isNm z = false
        unfold isNm
        rw [decide_eq_false c8, Bool.and_false]
        rfl
      have h := q H (Same.refl _)
      rw [ez] at h
      exact h
  · have e1 : decide ((1 : Int) ≤ (z.length : Int)) = false := decide_eq_false (by omega)
    refine if_false_of e1 ?_
    have ez : isNm z = false := by
      show isNm z = false
      unfold isNm
      rw [decide_eq_false c1]
      rfl
    have h := q H (Same.refl _)
    rw [ez] at h
    exact ⟨false, rfl, if_true_of rfl h⟩
theorem ok_law_is_nameS (T : Tops w K mg) : FnOk P w K mg base CX0 1 T.a__law_is_name T.d__law_is_name ["_law_value"] spIsNameS := by
  refine T.F__law_is_name.ok sc_law_is_name (fun vs H Q E h => ?_) (fun cdv A outer s H vs Q E hr h => ?_)
  · obtain ⟨z, rfl, _⟩ := h
    rfl
  obtain ⟨z, rfl, zs, q⟩ := h
  refine ⟨_, (pss_cons (ps_if (PW.pt (pw_or (pt_not (pt_val (pe_callB call_isi rfl T.z_isinstance (by decide +kernel) (pa_cons (pv 0) (pa_cons (pe_bltn (v := .ty "str") rfl T.z_str (by decide +kernel) rfl) pa_nil))))) (pw_or (pt_cmpR op_lt (pe_callB call_len rfl T.z_len PySem.boot_len (pa_cons (pv 0) pa_nil)) pe_int (nomark _)) (pw_or1 (pt_cmpR op_gt (pe_callB call_len rfl T.z_len PySem.boot_len (pa_cons (pv 0) pa_nil)) pe_int (nomark _)))))) (pss_one (ps_ret pe_bl)) pss_nil)
    (pss_one (ps_ret (pe_cmpR op_eq (pe_callB call_len rfl T.z_len PySem.boot_len (pa_cons (pe_lc (own := [("_law_letter", 1)]) (g := gName 1) (te := tVar 1) rfl sc_law_is_name.nd (pi_str (pv 0)) (blkOk_by (own := [("_law_letter", 1)]) (N := N_law_is_name) (sc := defScope s_law_is_name) (by decide +kernel)) (fun _ _ _ _ _ => (pg_name (i := 1) sc_law_is_name.nd rfl (Or.inl rfl))) (fun _ _ _ _ _ => pts_one (pt_cmpR op_in_str (pv 1) pe_str (by rfl))) (fun _ _ _ _ _ => pv 1)) pa_nil)) (pe_callB call_len rfl T.z_len PySem.boot_len (pa_cons (pv 0) pa_nil)) (nomark _))))), ?_⟩
  refine ⟨_, rfl, .str z, .ty "str", .type "str", .type "str", true, rfl, .ty _, .base (.str z), kit_ty (by decide +kernel), true, rfl, ?_⟩
  refine iteF ?_
  refine ⟨_, rfl, .str z, _, rfl, ⟨zs, rfl⟩, _, _, rfl, rfl, _, rfl, ?_⟩
  by_cases c1 : z.length < 1
  · rw [decide_eq_true (by omega : ((z.length : Nat) : Int) < 1)]
    have h2 : isNm z = false := by
      show isNm z = false
      unfold isNm
      rw [decide_eq_false (by omega : ¬ 1 ≤ z.length)]
      rfl
    rw [h2] at q
    exact iteT (q H (Same.refl _))
  · rw [decide_eq_false (by omega : ¬ ((z.length : Nat) : Int) < 1)]
    refine iteF ?_
    refine ⟨_, rfl, .str z, _, rfl, ⟨zs, rfl⟩, _, _, rfl, rfl, _, rfl, ?_⟩
    by_cases c8 : 8 < z.length
    · refine if_true_of (decide_eq_true (by omega)) ?_
      have h2 : isNm z = false := by
        show isNm z = false
        unfold isNm
        rw [decide_eq_false (by omega : ¬ z.length ≤ 8), Bool.and_false]
        rfl
      rw [h2] at q
      exact q H (Same.refl _)
    · refine if_false_of (decide_eq_false (by omega)) ?_
      have ez : isNm z = z.cps.toList.all lowc := by
        show isNm z = _
        unfold isNm
        rw [decide_eq_true (by omega : 1 ≤ z.length), decide_eq_true (by omega : z.length ≤ 8)]
        rfl
      refine ⟨_, rfl, z, rfl, fun D hD => lc_str (fun i H' => Same H H' ∧ H' D = some (.lst (((z.cps.toList.take i).filter lowc).map fun c => V.str ⟨#[c]⟩))) ⟨Same.new hD _, upd_same⟩ ?_ ?_⟩
      · rintro i c H' hc ⟨hs', hb⟩
        have hct : z.cps.toList[i]? = some c := by rw [Array.getElem?_toList]; exact hc
        have hz8 : z.cps.toList.length ≤ 8 := by show z.length ≤ 8; omega
        have hfl : ((z.cps.toList.take i).filter lowc).length ≤ 8 := Nat.le_trans (List.length_filter_le _ _) (by rw [List.length_take]; omega)
        refine ⟨rfl, ?_⟩
        refine ⟨_, rfl, _, _, rfl, rfl, _, rfl, ?_⟩
        cases hl : lowc c with
        | true =>
          refine if_true_of ((abc_in c).trans hl) ?_
          refine ⟨_, rfl, _, hb, small1000 (by rw [List.length_map]; omega), own_same hs' hD, ?_⟩
          rw [upd_same, take_more hct, List.filter_append, List.map_append]
          simp [hl]
        | false =>
          refine if_false_of ((abc_in c).trans hl) ⟨hs', ?_⟩
          rw [take_more hct, List.filter_append, List.filter_cons, hl]
          simpa using hb
      · rintro H' ⟨hs', hb⟩
        have hb' : H' D = some (.lst ((z.cps.toList.filter lowc).map fun c => V.str ⟨#[c]⟩)) := by
          rw [List.take_of_length_le (by rw [Array.length_toList]; exact Nat.le_refl _)] at hb
          exact hb
        refine ⟨.ref D, _, rfl, .inl ⟨_, SqL.of hb', rfl⟩, _, rfl, .str z, _, rfl, ⟨zs, rfl⟩, rfl, ?_⟩
        have h := q H' hs'
        rw [ez, ← filter_low] at h
        rw [List.length_map]
        exact h
end
end K41
namespace K41
open PySem PySem.Spec PyProof.Rows L2 Td TL
theorem De.tn_words {K : PySem.W.Frag} {H : Hp} {v : V} {p : Str × Str} (h : Tn K H v (wpD p)) : ∃ a, v = .ref a ∧ SqT K H a [.str p.1, .str p.2] := by
  obtain ⟨a, xs, rfl, hS, hT⟩ := Tn.tup_inv h
  cases hT with
  | cons a1 a2 =>
    cases a1
    cases a2 with
    | cons a3 a4 => cases a3; cases a4; exact ⟨a, rfl, hS⟩
/-- a deed in the heap -/
def DeAt (K : PySem.W.Frag) (H : Hp) (a : Addr) : De → Prop
  | .rd c => SqT K H a [.str "read", .str c]
  | .wr s w => SqT K H a [.str "write", .str s, .str w]
  | .bt ps => ∃ b xs, SqT K H a [.str "batch", .ref b] ∧ SqT K H b xs ∧ TnAll K H xs (ps.map wpD)
theorem De.at_ {K : PySem.W.Frag} {H : Hp} {v : V} {d : De} (h : Tn K H v d.data) : ∃ a, v = .ref a ∧ DeAt K H a d := by
  cases d with
  | rd c =>
    obtain ⟨a, xs, rfl, hS, hT⟩ := Tn.tup_inv h
    cases hT with
    | cons a1 a2 => cases a1; cases a2 with | cons a3 a4 => cases a3; cases a4; exact ⟨a, rfl, hS⟩
  | wr s w =>
    obtain ⟨a, xs, rfl, hS, hT⟩ := Tn.tup_inv h
    cases hT with
    | cons a1 a2 => cases a1; cases a2 with | cons a3 a4 => cases a3; cases a4 with | cons a5 a6 => cases a5; cases a6; exact ⟨a, rfl, hS⟩
  | bt ps =>
    obtain ⟨a, xs, rfl, hS, hT⟩ := Tn.tup_inv h
    cases hT with
    | cons a1 a2 =>
      cases a1
      cases a2 with
      | cons a3 a4 =>
        cases a4
        obtain ⟨b, ys, rfl, hB, hY⟩ := Tn.tup_inv a3
        exact ⟨a, rfl, b, ys, hS, hB, hY⟩
theorem good_sizes {d : De} (g : d.Good) : d.words.length ≤ 9 ∧ ∀ z ∈ d.words, z.length ≤ 8 := by
  have k : ("read" : Str).length ≤ 8 ∧ ("write" : Str).length ≤ 8 ∧ ("batch" : Str).length ≤ 8 := by decide +kernel
  have nm : ∀ z, isNm z = true → z.length ≤ 8 := fun z hz => (isNm_len hz).2.1
  cases d with
  | rd c =>
    refine ⟨by show 2 ≤ 9; decide, fun z hz => ?_⟩
    simp only [De.words, List.mem_cons, List.not_mem_nil, or_false] at hz
    rcases hz with rfl | rfl
    · exact k.1
    · exact nm _ g
  | wr s w =>
    refine ⟨by show 3 ≤ 9; decide, fun z hz => ?_⟩
    simp only [De.words, List.mem_cons, List.not_mem_nil, or_false] at hz
    rcases hz with rfl | rfl | rfl
    · exact k.2.1
    · exact nm _ g.1
    · exact nm _ g.2
  | bt ps =>
    refine ⟨?_, fun z hz => ?_⟩
    · show (flat2 Prod.fst Prod.snd ps).length + 1 ≤ 9
      rw [flat2_len]
      have := g.2.1
      omega
    · rcases List.mem_cons.mp hz with rfl | hz
      · exact k.2.2
      · exact nm _ (List.all_eq_true.mp (flat_nm g.2.2.1) z hz)
theorem sum_le {ls : List Str} {n : Nat} (h : ∀ z ∈ ls, z.length ≤ n) : (ls.map (·.length)).sum ≤ ls.length * n := by
  induction ls with
  | nil => simp
  | cons z ls ih =>
    have h1 := h z List.mem_cons_self
    have h2 := ih fun x hx => h x (List.mem_cons_of_mem _ hx)
    rw [List.map_cons, List.sum_cons, List.length_cons, Nat.succ_mul]
    omega
theorem join_le (s : Str) (ls : List Str) : (Txt.join s ls).length ≤ (ls.map (·.length)).sum + ls.length * s.length := by
  rw [join_eq]
  exact PySem.StrLaws.join_length_le s ls
theorem line_len {d : De} (g : d.Good) : (lineOf d).length ≤ 100 := by
  obtain ⟨h1, h2⟩ := good_sizes g
  have h3 := sum_le h2
  have h4 := join_le sp1 d.words
  have h5 : sp1.length = 1 := by decide +kernel
  unfold lineOf
  rw [h5] at h4
  have : d.words.length * 8 ≤ 72 := by omega
  omega
theorem Same.own {H H' : Hp} {p : Addr} {o : HO} (k : Same H H') (h : H p = none) : Same H (upd H' p o) := fun b u e => by
  rw [upd_ne (ne_of_none e h)]; exact k b u e
theorem words_room {d : De} (g : d.Good) : (d.words.map (·.length)).sum + d.words.length * sp1.length ≤ 16777216 := by
  obtain ⟨h1, h2⟩ := good_sizes g
  have h3 := sum_le h2
  have h5 : sp1.length = 1 := by decide +kernel
  rw [h5]
  omega
theorem flat2_succ {α β : Type} (f g : α → β) {ps : List α} {i : Nat} {p : α} (h : ps[i]? = some p) : flat2 f g (ps.take (i + 1)) = flat2 f g (ps.take i) ++ [f p, g p] := by
  unfold flat2
  rw [List.take_succ, h, List.flatMap_append]
  rfl
theorem lists_at {K : PySem.W.Frag} {H : Hp} {xs : List V} {ps : List (Str × Str)} {i : Nat} {x : V} (h : TnAll K H xs (ps.map wpD)) (hi : xs[i]? = some x) : ∃ p a, ps[i]? = some p ∧ x = .ref a ∧ SqT K H a [.str p.1, .str p.2] := by
  obtain ⟨d, h1, h2⟩ := h.get hi
  rw [List.getElem?_map] at h1
  cases e : ps[i]? with
  | none => rw [e] at h1; cases h1
  | some p =>
    rw [e] at h1
    cases h1
    obtain ⟨a, rfl, hS⟩ := De.tn_words h2
    exact ⟨p, a, rfl, rfl, hS⟩
/-- the words of a batch, the first pairs -/
def btW (ps : List (Str × Str)) (i : Nat) : List V := ((("batch" : Str) :: flat2 Prod.fst Prod.snd (ps.take i))).map V.str
theorem btW_succ {ps : List (Str × Str)} {i : Nat} {p : Str × Str} (h : ps[i]? = some p) : btW ps (i + 1) = btW ps i ++ [.str p.1, .str p.2] := by
  unfold btW
  rw [flat2_succ _ _ h, ← List.cons_append, List.map_append]
  rfl
theorem btW_len (ps : List (Str × Str)) (i : Nat) : (btW ps i).length ≤ ps.length * 2 + 1 := by
  unfold btW
  rw [List.length_map, List.length_cons, flat2_len, List.length_take]
  omega
def spLine (K : PySem.W.Frag) : Sp := fun vs H Q _ => ∃ (v : V) (d : De), vs = [v] ∧ Tn K H v d.data ∧ d.Good ∧ ∀ H', Same H H' → Q (.str (lineOf d)) H'
def spJoined (K : PySem.W.Frag) : Sp := fun vs H Q _ => ∃ (l : Addr) (ls : List Str) (n : Nat), vs = [.ref l] ∧ H l = some (.lst (ls.map V.str)) ∧ ls.length ≤ 20 ∧ (∀ z ∈ ls, z.length ≤ 10000) ∧ ∀ H', Same H H' → Q (.str (textOf ls)) H'
def spFormat (K : PySem.W.Frag) : Sp := fun vs H Q _ => ∃ (l : Addr) (cs : List V) (ds : List De), vs = [.ref l] ∧ H l = some (.lst cs) ∧ TnAll K H cs (ds.map De.data) ∧ (∀ d ∈ ds, d.Good) ∧ ds.length ≤ 20 ∧ ∀ H', Same H H' → Q (.str (textOf (ds.map lineOf))) H'
section
variable {P : Program} {w : World} {K : PySem.W.Frag} {mg : Str → Option Value} {base : Heap}
theorem ok_line_of (T : Tops w K mg) : FnOk P w K mg base CX0 1 T.a_line_of_deed T.d_line_of_deed ["deed"] (spLine K) := by
  refine T.F_line_of_deed.ok sc_line_of_deed (fun vs H Q E h => ?_) (fun cdv A outer s H vs Q E hr h => ?_)
  · obtain ⟨v, d, rfl, _⟩ := h
    rfl
  obtain ⟨v, d, rfl, hD, g, q⟩ := h
  obtain ⟨h9, h8⟩ := good_sizes g
  refine ⟨_, (pss_cons (ps_set (i := 1) sc_line_of_deed.nd rfl (Or.inl rfl) (pe_callTy call_list_of rfl T.z_list (by decide +kernel) (pa_cons (pv 0) pa_nil)))
    (pss_cons (ps_if (pt_cmpR op_eq (pe_ix ix_tup (pv 0) pe_int (fun _ _ => rfl)) pe_str (nomark _)) (pss_cons (ps_set (i := 1) sc_line_of_deed.nd rfl (Or.inl rfl) (pe_lst (pa_cons pe_str pa_nil)))
    (pss_one (ps_for PassesOwn.never rfl (pi_tup (pe_ix ix_tup (pv 0) pe_int (fun _ _ => rfl))) (pg_name (i := 2) sc_line_of_deed.nd rfl (Or.inl rfl)) (pss_one (ps_expr (pe_bm PySem.F.plainAttrs_list PySem.F.slot_list_extend PySem.F.type_list_extend mt_extT (pv 1) (pa_cons (pv 2) pa_nil))))))) pss_nil)
    (pss_one (ps_ret (pe_join pe_str (pv 1)))))), ?_⟩
  obtain ⟨a, rfl, hA⟩ := De.at_ hD
  cases d with
  | rd c =>
    refine ⟨_, rfl, a, _, rfl, .inr hA, fun l hl => ?_⟩
    refine ⟨_, rfl, a, _, 0, _, rfl, rfl, SqT.same (Same.new hl _) hA, rfl, rfl, _, rfl, ?_⟩
    exact if_false_of (by decide +kernel) ⟨⟨_, rfl⟩, _, rfl, sp1, l, De.words (.rd c), rfl, rfl, .inl (SqL.of upd_same), words_room g, q _ (Same.new hl _)⟩
  | wr s0 w0 =>
    refine ⟨_, rfl, a, _, rfl, .inr hA, fun l hl => ?_⟩
    refine ⟨_, rfl, a, _, 0, _, rfl, rfl, SqT.same (Same.new hl _) hA, rfl, rfl, _, rfl, ?_⟩
    exact if_false_of (by decide +kernel) ⟨⟨_, rfl⟩, _, rfl, sp1, l, De.words (.wr s0 w0), rfl, rfl, .inl (SqL.of upd_same), words_room g, q _ (Same.new hl _)⟩
  | bt ps =>
    obtain ⟨b, xs, hS, hB, hX⟩ := hA
    refine ⟨_, rfl, a, _, rfl, .inr hS, fun l hl => ?_⟩
    have s1 := Same.new hl (.lst [.str "batch", .ref b])
    refine ⟨_, rfl, a, _, 0, _, rfl, rfl, SqT.same s1 hS, rfl, rfl, _, rfl, ?_⟩
    refine if_true_of (by decide +kernel) ?_
    generalize upd H l (.lst [.str "batch", .ref b]) = H1 at s1
    refine ⟨by show 1 ≤ sizeLine; decide, fun p hp => ?_⟩
    have s2 := s1.trans (Same.new hp (.lst [.str "batch"]))
    have hp2 : upd H1 p (.lst [.str "batch"]) p = some (.lst (btW ps 0)) := upd_same
    have hpH : H p = none := by
      cases e : H p with
      | none => rfl
      | some o => rw [s1 _ _ e] at hp; cases hp
    generalize upd H1 p (.lst [.str "batch"]) = H2 at s2 hp2
    refine ⟨_, rfl, a, _, 1, _, rfl, rfl, SqT.same s2 hS, rfl, b, rfl, ⟨_, SqT.same s2 hB⟩, for_tup (K := K) (a := b) (xs := xs) (fun i σ H' => ∃ (v2 : Option V), σ = [some (.ref a), some (.ref p), v2] ∧ Same H H' ∧ H' p = some (.lst (btW ps i)))
      ⟨none, rfl, s2, hp2⟩ (fun i σ H' _ ⟨_, _, s', _⟩ => SqT.same s' hB) ?_ ?_⟩
    · rintro i x σ H3 hi ⟨v2, rfl, s3, hp3⟩
      obtain ⟨pr, c, hpr, rfl, hc⟩ := lists_at hX hi
      refine ⟨_, rfl, .inl ⟨rfl, _, SqL.of hp3⟩, _, rfl, p, c, _, _, rfl, rfl, hp3, SqT.same s3 hc, ?_, ?_⟩
      · exact small1000 (by have := btW_len ps i; have := g.2.1; show (btW ps i).length + 2 ≤ 1000; omega) |> Nat.le_of_lt
      · exact ⟨_, rfl, K41.Same.own s3 hpH, by rw [btW_succ hpr]; exact upd_same⟩
    · rintro σ H3 ⟨v2, rfl, s3, hp3⟩
      have hxl : xs.length = ps.length := by rw [hX.length, List.length_map]
      have e : btW ps xs.length = (De.words (.bt ps)).map V.str := by unfold btW; rw [hxl, List.take_length]; rfl
      rw [e] at hp3
      exact ⟨⟨_, rfl⟩, _, rfl, sp1, p, De.words (.bt ps), rfl, rfl, .inl (SqL.of hp3), words_room g, q _ s3⟩
theorem ok_law_line (T : Tops w K mg) : FnOk P w K mg base CX0 1 T.a__law_line T.d__law_line ["_law_deed_here"] (spLine K) := by
  refine T.F__law_line.ok sc_law_line (fun vs H Q E h => ?_) (fun cdv A outer s H vs Q E hr h => ?_)
  · obtain ⟨v, d, rfl, _⟩ := h
    rfl
  obtain ⟨v, d, rfl, hD, g, q⟩ := h
  obtain ⟨h9, h8⟩ := good_sizes g
  refine ⟨_, (pss_cons (ps_if (pt_cmpR op_ne (pe_ix ix_tup (pv 0) pe_int (fun _ _ => rfl)) pe_str (nomark _)) (pss_one (ps_ret (pe_join pe_str (pe_callTy call_list_of rfl T.z_list (by decide +kernel) (pa_cons (pv 0) pa_nil))))) pss_nil)
    (pss_cons (ps_set (i := 1) sc_law_line.nd rfl (Or.inl rfl) (pe_lst (pa_cons pe_str pa_nil)))
    (pss_cons (ps_for PassesOwn.never rfl (pi_tup (pe_ix ix_tup (pv 0) pe_int (fun _ _ => rfl))) (pg_name (i := 2) sc_law_line.nd rfl (Or.inl rfl)) (pss_one (ps_expr (pe_bm PySem.F.plainAttrs_list PySem.F.slot_list_extend PySem.F.type_list_extend mt_extend (pv 1) (pa_cons (pe_callTy call_list_of rfl T.z_list (by decide +kernel) (pa_cons (pv 2) pa_nil)) pa_nil)))))
    (pss_one (ps_ret (pe_join pe_str (pv 1))))))), ?_⟩
  obtain ⟨a, rfl, hA⟩ := De.at_ hD
  cases d with
  | rd c =>
    refine ⟨_, rfl, a, _, 0, _, rfl, rfl, hA, rfl, rfl, _, rfl, ?_⟩
    refine if_true_of (by decide +kernel) ?_
    exact ⟨⟨_, rfl⟩, _, rfl, a, _, rfl, .inr hA, fun l hl => ⟨sp1, l, De.words (.rd c), rfl, rfl, .inl (SqL.of upd_same), words_room g, q _ (Same.new hl _)⟩⟩
  | wr s0 w0 =>
    refine ⟨_, rfl, a, _, 0, _, rfl, rfl, hA, rfl, rfl, _, rfl, ?_⟩
    refine if_true_of (by decide +kernel) ?_
    exact ⟨⟨_, rfl⟩, _, rfl, a, _, rfl, .inr hA, fun l hl => ⟨sp1, l, De.words (.wr s0 w0), rfl, rfl, .inl (SqL.of upd_same), words_room g, q _ (Same.new hl _)⟩⟩
  | bt ps =>
    obtain ⟨b, xs, hS, hB, hX⟩ := hA
    refine ⟨_, rfl, a, _, 0, _, rfl, rfl, hS, rfl, rfl, _, rfl, ?_⟩
    refine if_false_of (by decide +kernel) ?_
    refine ⟨by show 1 ≤ sizeLine; decide, fun p hpH => ?_⟩
    have s2 := Same.new hpH (.lst [.str "batch"])
    have hp2 : upd H p (.lst [.str "batch"]) p = some (.lst (btW ps 0)) := upd_same
    generalize upd H p (.lst [.str "batch"]) = H2 at s2 hp2
    refine ⟨_, rfl, a, _, 1, _, rfl, rfl, SqT.same s2 hS, rfl, b, rfl, ⟨_, SqT.same s2 hB⟩, for_tup (K := K) (a := b) (xs := xs) (fun i σ H' => ∃ (v2 : Option V), σ = [some (.ref a), some (.ref p), v2] ∧ Same H H' ∧ H' p = some (.lst (btW ps i)))
      ⟨none, rfl, s2, hp2⟩ (fun i σ H' _ ⟨_, _, s', _⟩ => SqT.same s' hB) ?_ ?_⟩
    · rintro i x σ H3 hi ⟨v2, rfl, s3, hp3⟩
      obtain ⟨pr, c, hpr, rfl, hc⟩ := lists_at hX hi
      refine ⟨_, rfl, .inl ⟨rfl, _, SqL.of hp3⟩, _, rfl, c, _, rfl, .inr (SqT.same s3 hc), fun l hl => ?_⟩
      have s4 := Same.new hl (.lst [V.str pr.1, V.str pr.2])
      refine ⟨p, l, _, _, rfl, rfl, s4 _ _ hp3, upd_same, ?_, ?_⟩
      · exact small1000 (by have := btW_len ps i; have := g.2.1; show (btW ps i).length + 2 ≤ 1000; omega) |> Nat.le_of_lt
      · exact ⟨_, rfl, K41.Same.own (s3.trans s4) hpH, by rw [btW_succ hpr]; exact upd_same⟩
    · rintro σ H3 ⟨v2, rfl, s3, hp3⟩
      have hxl : xs.length = ps.length := by rw [hX.length, List.length_map]
      have e : btW ps xs.length = (De.words (.bt ps)).map V.str := by unfold btW; rw [hxl, List.take_length]; rfl
      rw [e] at hp3
      exact ⟨⟨_, rfl⟩, _, rfl, sp1, p, De.words (.bt ps), rfl, rfl, .inl (SqL.of hp3), words_room g, q _ s3⟩
theorem ok_joined (T : Tops w K mg) : FnOk P w K mg base CX0 1 T.a_joined T.d_joined ["lines"] (spJoined K) := by
  refine T.F_joined.ok sc_joined (fun vs H Q E h => ?_) (fun cdv A outer s H vs Q E hr h => ?_)
  · obtain ⟨l, ls, n, rfl, _⟩ := h
    rfl
  obtain ⟨l, ls, n, rfl, hl, h20, hz, q⟩ := h
  refine ⟨_, (pss_one (ps_ret (pe_join pe_str (pe_lc (own := [(("line" : Str), 1)]) (wi := (iList K (tVar 0))) (g := gName 1) (tt := tYes) (te := (tOp (fun x y H Q => ∃ i j, x = .str i ∧ y = .str j ∧ i.length + j.length ≤ sizeLine ∧ Q (.str (i ++ j)) H) (tVar 1) (tC (.str "
")))) rfl sc_joined.nd (pi_list (pv 0)) (blkOk_by (own := [(("line" : Str), 1)]) (N := N_joined) (sc := defScope s_joined) (by decide +kernel)) (fun _ _ _ _ _ => (pg_name (i := 1) sc_joined.nd rfl (Or.inl rfl))) (fun _ _ _ _ _ => pts_nil) (fun _ _ _ _ _ => (pe_op op_add_str (pv 1) pe_str)))))), ?_⟩
  refine ⟨⟨_, rfl⟩, _, rfl, l, rfl, ⟨_, SqL.of hl⟩, fun D hD => lc_list (K := K) (a := l) (xs := ls.map V.str) (fun i H' => Same H H' ∧ H' D = some (.lst (((ls.take i).map fun z => z ++ nl1).map V.str)))
    ⟨Same.new hD _, upd_same⟩ (fun i H' _ ⟨s', _⟩ => SqL.of (s' _ _ hl)) ?_ ?_⟩
  · rintro i x H1 hi ⟨s1, h1⟩
    rw [List.getElem?_map] at hi
    cases e : ls[i]? with
    | none => rw [e] at hi; cases hi
    | some z =>
      rw [e] at hi
      cases hi
      have il : i < ls.length := (List.getElem?_eq_some_iff.mp e).1
      refine ⟨rfl, ?_⟩
      refine ⟨_, rfl, z, nl1, rfl, rfl, Nat.le_trans (Nat.add_le_add (hz z (List.mem_of_getElem? e)) (by decide +kernel : nl1.length ≤ 1)) (by decide), ?_⟩
      refine ⟨_, h1, small1000 (by simp; omega), K41.Same.own s1 hD, ?_⟩
      rw [List.take_succ, e, List.map_append, List.map_append]
      exact upd_same
  · rintro H1 ⟨s1, h1⟩
    rw [List.length_map, List.take_length] at h1
    refine ⟨Str.empty, D, _, rfl, rfl, .inl (SqL.of h1), ?_, q _ s1⟩
    have h5 : Str.empty.length = 0 := by decide +kernel
    have := sum_le (ls := ls.map fun z => z ++ nl1) (n := 10001) fun x hx => by
      obtain ⟨z, hz', rfl⟩ := List.mem_map.mp hx
      rw [Str.length_append]
      exact Nat.add_le_add (hz z hz') (by decide +kernel : nl1.length ≤ 1)
    rw [List.length_map] at this
    rw [h5, Nat.mul_zero]
    omega
theorem ok_format (T : Tops w K mg) (G_line_of_deed : FnOk P w K mg base CX0 1 T.a_line_of_deed T.d_line_of_deed ["deed"] (spLine K))
    (G_joined : FnOk P w K mg base CX0 1 T.a_joined T.d_joined ["lines"] (spJoined K)) :
    FnOk P w K mg base CX0 2 T.a_format_deeds T.d_format_deeds ["deeds"] (spFormat K) := by
  refine T.F_format_deeds.ok sc_format_deeds (fun vs H Q E h => ?_) (fun cdv A outer s H vs Q E hr h => ?_)
  · obtain ⟨l, cs, ds, rfl, _⟩ := h
    rfl
  obtain ⟨l, cs, ds, rfl, hl, hC, hg, h20, q⟩ := h
  refine ⟨_, (pss_one (ps_ret (pe_call G_joined (hr.mono (by omega)) rfl T.m_joined T.F_joined.kp T.b_joined .nil pass0 (pa_cons (pe_lc (own := [(("deed" : Str), 1)]) (wi := (iList K (tVar 0))) (g := gName 1) (tt := tYes) (te := (tCall (spLine K) [] E0 (tCons (tVar 1) tNil))) rfl sc_format_deeds.nd (pi_list (pv 0)) (blkOk_by (own := [(("deed" : Str), 1)]) (N := N_format_deeds) (sc := defScope s_format_deeds) (by decide +kernel)) (fun _ _ _ _ _ => (pg_name (i := 1) sc_format_deeds.nd rfl (Or.inl rfl))) (fun _ _ _ _ _ => pts_nil) (fun _ _ _ _ _ => (pe_call G_line_of_deed (hr.mono (by omega)) rfl T.m_line_of_deed T.F_line_of_deed.kp T.b_line_of_deed .nil pass0 (pa_cons (pv 1) pa_nil)))) pa_nil)))), ?_⟩
  refine ⟨_, rfl, l, rfl, ⟨_, SqL.of hl⟩, fun D hD => lc_list (K := K) (a := l) (xs := cs) (fun i H' => Same H H' ∧ H' D = some (.lst (((ds.take i).map lineOf).map V.str)))
    ⟨Same.new hD _, upd_same⟩ (fun i H' _ ⟨s', _⟩ => SqL.of (s' _ _ hl)) ?_ ?_⟩
  · rintro i x H1 hi ⟨s1, h1⟩
    obtain ⟨d0, h2, h3⟩ := hC.get hi
    rw [List.getElem?_map] at h2
    cases e : ds[i]? with
    | none => rw [e] at h2; cases h2
    | some d =>
      rw [e] at h2
      cases h2
      have il : i < ds.length := (List.getElem?_eq_some_iff.mp e).1
      refine ⟨rfl, ?_⟩
      refine ⟨_, rfl, x, d, rfl, Tn.keep (TK.of_same s1) h3, hg d (List.mem_of_getElem? e), fun H2 s2 => ?_⟩
      have s12 := s1.trans s2
      refine ⟨_, s2 _ _ h1, small1000 (by simp; omega), K41.Same.own s12 hD, ?_⟩
      rw [List.take_succ, e, List.map_append, List.map_append]
      exact upd_same
  · rintro H1 ⟨s1, h1⟩
    have e : cs.length = ds.length := by rw [hC.length, List.length_map]
    rw [e, List.take_length] at h1
    refine ⟨D, _, 1, rfl, h1, by rw [List.length_map]; exact h20, fun z hz => ?_, fun H' s' => q _ (s1.trans s')⟩
    obtain ⟨d, hd, rfl⟩ := List.mem_map.mp hz
    exact Nat.le_trans (line_len (hg d hd)) (by decide)
end
end K41
namespace K41
open PySem PySem.Spec PyProof.Rows L2 Td TL
theorem cut_from (xs : List V) (k : Nat) : cutV xs (some (k : Int)) none = xs.drop k := by
  unfold cutV
  rw [HT.sIx_none, HT.sIx_nat]
  by_cases h : k ≤ xs.length
  · rw [Nat.min_eq_left h]
    exact List.take_of_length_le (by rw [List.length_drop]; omega)
  · rw [Nat.min_eq_right (by omega), Nat.sub_self, List.take_zero, List.drop_of_length_le (by omega)]
theorem ends_nl (t : Str) : Txt.endswith t nl1 = decide ((tl t).getLast? = some 10) := by
  have e1 : nl1.length = 1 := by decide +kernel
  have e2 : nl1.cps.toList = [10] := tl_nl
  unfold Txt.endswith
  rw [PySem.StrLaws.subAt_eq, e1, e2]
  show (decide (0 + 1 ≤ t.length) && (((tl t).drop (t.length - 1)).take 1 == [10])) = _
  rw [len_tl]
  by_cases h : tl t = []
  · rw [h]; rfl
  · obtain ⟨M, c, e⟩ : ∃ M c, tl t = M ++ [c] := ⟨_, _, (List.dropLast_concat_getLast h).symm⟩
    rw [e, List.getLast?_concat, List.length_append, List.length_singleton, Nat.add_sub_cancel, List.drop_left]
    by_cases c10 : c = 10
    · subst c10
      rw [decide_eq_true (by omega : 0 + 1 ≤ M.length + 1), decide_eq_true rfl]
      rfl
    · rw [decide_eq_false (fun x => c10 (Option.some.inj x))]
      have : ([c].take 1 == [10]) = false := by
        show ([c] == [10]) = false
        simp [c10]
      rw [this, Bool.and_false]
theorem cut_last (t : Str) : tl (cutS t none (some (-1))) = (tl t).dropLast := by
  show ((tl t).drop 0).take (HT.sIx t.length t.length (some (-1)) - 0) = _
  rw [List.drop_zero, List.dropLast_eq_take, len_tl]
  have e : HT.sIx (tl t).length (tl t).length (some (-1)) = (tl t).length - 1 := by
    show (if (-1 : Int) < 0 then ((-1 : Int) + ((tl t).length : Int)).toNat else min (-1 : Int).toNat (tl t).length) = _
    rw [if_pos (by decide)]
    omega
  rw [e, Nat.sub_zero]
theorem cut_tail (x : V) (xs : List V) : cutV (x :: xs) (some 1) none = xs := cut_from (x :: xs) 1
theorem cond_wr {h : Str} {t : List Str} (c : h = "write" ∧ t.length = 2 ∨ h = "read" ∧ t.length = 1) (ha : t.all isNm = true) : ∃ d, saidF (h :: t) = some d ∧ d.data = .tuple ((h :: t).map PyData.str) := by
  rcases c with ⟨rfl, c⟩ | ⟨rfl, c⟩
  · match t, c with
    | [s, w], c =>
      refine ⟨.wr s w, ?_, rfl⟩
      show (if [s, w].all isNm = false then none else _) = _
      rw [ha, if_neg (by decide), if_pos (.inl ⟨rfl, rfl⟩)]
  · match t, c with
    | [s], c =>
      refine ⟨.rd s, ?_, rfl⟩
      show (if [s].all isNm = false then none else _) = _
      rw [ha, if_neg (by decide), if_pos (.inr ⟨rfl, rfl⟩)]
theorem said_bad {h : Str} {t : List Str} (ha : t.all isNm = false) : saidF (h :: t) = none := by
  show (if t.all isNm = false then none else _) = _
  rw [if_pos ha]
theorem said_bt {h : Str} {t : List Str} (c : ¬ (h = "write" ∧ t.length = 2 ∨ h = "read" ∧ t.length = 1)) (ha : t.all isNm = true) :
    saidF (h :: t) = if h ≠ "batch" ∨ t.length = 0 ∨ t.length % 2 = 1 then none else if ((pairUp t).map (·.1)).Nodup then some (.bt (pairUp t)) else none := by
  show (if t.all isNm = false then none else _) = _
  rw [ha, if_neg (by decide), if_neg c]
theorem pairUp_len : ∀ (t : List Str), t.length % 2 = 0 → t.length = (pairUp t).length * 2
  | [], _ => rfl
  | [_], h => by simp at h
  | a :: b :: r, h => by
    have := pairUp_len r (by simp only [List.length_cons] at h; omega)
    show r.length + 2 = ((pairUp r).length + 1) * 2
    omega
theorem flat2_map {α β γ : Type} (f g : α → β) (k : β → γ) (ps : List α) : (flat2 f g ps).map k = flat2 (fun p => k (f p)) (fun p => k (g p)) ps := by
  unfold flat2
  rw [List.map_flatMap]
  rfl
theorem plc_even (k : Nat) : plc 0 (k * 2) = k ∧ plc 1 (k * 2) = k := by
  unfold plc
  constructor
  · split <;> omega
  · split <;> omega
theorem stp_names {t : List Str} (h : t.length % 2 = 0) : stp 0 (plc 0 (t.map V.str).length) (t.map V.str) = ((pairUp t).map (·.1)).map V.str ∧ stp 1 (plc 1 (t.map V.str).length) (t.map V.str) = ((pairUp t).map (·.2)).map V.str := by
  have e : t.map V.str = flat2 (fun p : Str × Str => V.str p.1) (fun p : Str × Str => V.str p.2) (pairUp t) := by rw [← flat2_map, flat_pairUp t h]
  rw [List.length_map, pairUp_len t h, (plc_even _).1, (plc_even _).2, e]
  obtain ⟨h1, h2⟩ := stp_flat (fun p : Str × Str => V.str p.1) (fun p : Str × Str => V.str p.2) (pairUp t)
  rw [h1, h2, List.map_map, List.map_map]
  exact ⟨rfl, rfl⟩
theorem pairs_tn {K : PySem.W.Frag} {H : Hp} : ∀ {ts : List Addr} {ps : List (Str × Str)}, Paired (fun (t : Addr) (q : Key × V) => H t = some (.tup [kV q.1, q.2])) ts ((ps.map fun p => (Sum.inr p.1 : Key)).zip (ps.map fun p => V.str p.2)) → TnAll K H (ts.map V.ref) (ps.map wpD)
  | _, [], h => by cases h; exact .nil
  | _, p :: ps, h => by
    cases h with
    | cons a b => exact .cons (.tup (SqT.of a) (.cons (.str p.1) (.cons (.str p.2) .nil))) (pairs_tn b)
theorem dcnt_lt {xs : List Str} : decide (((TdSet.dcnt xs xs.length : Nat) : Int) < ((xs.length : Nat) : Int)) = !decide xs.Nodup := by
  have l := TdSet.dcnt_le xs xs.length
  by_cases h : xs.Nodup
  · rw [TdSet.dcnt_nodup (Nat.le_refl _) (by rw [List.take_length]; exact h), decide_eq_true h]
    exact decide_eq_false (by omega)
  · rw [decide_eq_false h]
    refine decide_eq_true ?_
    have : TdSet.dcnt xs xs.length ≠ xs.length := fun e => h (by have := TdSet.dcnt_full (Nat.le_refl _) e; rwa [List.take_length] at this)
    omega
theorem all_bl (t : List Str) : (t.map isNm).all id = t.all isNm := by rw [List.all_map]; rfl
theorem spl_ne : ∀ (S : List Nat) (l acc : List Nat) (k : Nat), spl S k acc l ≠ []
  | S, [], acc, k => by rw [spl_nil]; simp
  | S, c :: r, acc, 0 => by
    by_cases h : pre S (c :: r) = true
    · rw [spl_hit h]; simp
    · rw [spl_miss (Bool.not_eq_true _ ▸ h)]; exact spl_ne S r _ 0
  | S, c :: r, acc, k + 1 => by rw [spl_pass]; exact spl_ne' S ((c :: r).drop (k + 1)) acc
where spl_ne' (S : List Nat) : ∀ (l acc : List Nat), spl S 0 acc l ≠ []
  | [], acc => by rw [spl_nil]; simp
  | c :: r, acc => by
    by_cases h : pre S (c :: r) = true
    · rw [spl_hit h]; simp
    · rw [spl_miss (Bool.not_eq_true _ ▸ h)]; exact spl_ne' S r _
theorem split_ne (t : Str) : Txt.split t sp1 ≠ [] := fun e => by
  have := split_spl t sp1 (by rw [tl_sp]; simp) (kind_ok small_sp)
  rw [e] at this
  exact spl_ne _ _ _ _ this.symm
theorem le_sum : ∀ {ls : List Str} {z : Str}, z ∈ ls → z.length ≤ (ls.map (·.length)).sum
  | y :: ls, z, h => by
    rw [List.map_cons, List.sum_cons]
    rcases List.mem_cons.mp h with rfl | h
    · omega
    · have := le_sum h; omega
theorem split_sizes {t : Str} {ws : List Str} (e : Txt.split t sp1 = ws) {n : Nat} (h : t.length ≤ n) : ws ≠ [] ∧ ws.length ≤ n + 1 ∧ ∀ z ∈ ws, z.length ≤ n := by
  subst e
  have w := PyProof.Rows.split_weight t sp1 (by decide +kernel)
  have ne := List.length_pos_iff.mpr (split_ne t)
  refine ⟨split_ne t, by omega, fun z hz => ?_⟩
  have := le_sum hz
  omega
theorem pair_at {r : List Str} (h : r.length % 2 = 0) {k : Nat} {p : Str × Str} (hk : (pairUp r)[k]? = some p) (x : Str) : ((x :: r).map V.str)[2 * k + 1]? = some (.str p.1) ∧ ((x :: r).map V.str)[2 * k + 2]? = some (.str p.2) := by
  obtain ⟨h1, h2⟩ := flat2_at (Prod.fst : Str × Str → Str) Prod.snd (pairUp r) k
  rw [flat_pairUp r h, hk] at h1 h2
  rw [List.getElem?_map, List.getElem?_map, List.getElem?_cons_succ, show 2 * k + 2 = (2 * k + 1) + 1 from rfl, List.getElem?_cons_succ, show 2 * k = 0 + k * 2 by omega, h1, show 0 + k * 2 + 1 = 1 + k * 2 by omega, h2]
  exact ⟨rfl, rfl⟩
theorem nodup_take {α : Type} {L : List α} (h : L.Nodup) (n : Nat) : (L.take n).Nodup := h.sublist (List.take_sublist n L)
theorem nodup_snoc {L : List Str} {x : Str} (h : L.Nodup) (hx : x ∉ L) : (L ++ [x]).Nodup := by
  rw [List.nodup_append]
  refine ⟨h, by simp, fun a ha b hb => ?_⟩
  rw [List.mem_singleton] at hb
  rintro rfl
  exact hx (hb ▸ ha)
def spLines (K : PySem.W.Frag) (CI : Addr) : Sp := fun vs H Q E => ∃ t : Str, vs = [.str t] ∧ t.length ≤ 100000 ∧
  ((tl t).getLast? = some 10 → ∀ (l : Addr) H', Same H H' → H l = none → H' l = some (.lst ((linesF t).map V.str)) → Q (.ref l) H') ∧ ((tl t).getLast? ≠ some 10 → Rz CI "line" (.int 0) H E)
def spDeedOf (K : PySem.W.Frag) : Sp := fun vs H Q _ => ∃ (l : Addr) (ws : List Str), vs = [.ref l] ∧ H l = some (.lst (ws.map V.str)) ∧ ws ≠ [] ∧ ws.length ≤ 3000 ∧ (∀ z ∈ ws, z.length ≤ 3000) ∧
  (saidF ws = none → ∀ H', Same H H' → Q .non H') ∧ (∀ d, saidF ws = some d → ∀ v H', Same H H' → Tn K H' v d.data → Q v H')
def spSaid (K : PySem.W.Frag) : Sp := fun vs H Q _ => ∃ (t : Str) (ws : List Str), vs = [.str t] ∧ Txt.split t sp1 = ws ∧ t.length ≤ 2900 ∧
  (saidF ws = none → ∀ H', Same H H' → Q .non H') ∧ (∀ d, saidF ws = some d → ∀ v H', Same H H' → Tn K H' v d.data → Q v H')
section
variable {P : Program} {w : World} {K : PySem.W.Frag} {mg : Str → Option Value} {base : Heap}
theorem ok_InvalidText (T : Tops w K mg) : FnOk P w K mg base CX0 1 T.a_InvalidText_init T.d_InvalidText_init ["self", "line"] (spExc K T.c_InvalidText "line") := by
  refine T.F_InvalidText_init.ok sc_InvalidText_init (fun vs H Q E h => ?_) (fun cdv A outer s H vs Q E hr h => ?_)
  · obtain ⟨a, y, rfl, _⟩ := h; rfl
  obtain ⟨a, y, rfl, ha, q⟩ := h
  exact ⟨_, (pss_one (ps_ost (pv 0) (pv 1))), _, rfl, _, rfl, a, T.c_InvalidText, rfl, T.x_InvalidText, T.n_InvalidText_line, .inl ⟨ha, fun dx h1 h2 => q dx _ h1 h2 rfl⟩⟩
theorem ok_lines_of (T : Tops w K mg) (G_InvalidText_init : FnOk P w K mg base CX0 1 T.a_InvalidText_init T.d_InvalidText_init ["self", "line"] (spExc K T.c_InvalidText "line")) :
    FnOk P w K mg base (L2.CX P w) 3 T.a_lines_of T.d_lines_of ["text"] (spLines K T.c_InvalidText) := by
  refine T.F_lines_of.okX sc_lines_of (fun vs H Q E h => ?_) (fun cdv A outer s H vs Q E hr h => ?_)
  · obtain ⟨t, rfl, _⟩ := h; rfl
  obtain ⟨t, rfl, ht, q1, q2⟩ := h
  refine ⟨_, (pss_cons (ps_if (pt_not (pt_val (pe_m1 PySem.F.slot_str_endswith PySem.F.type_str_endswith mt_endswith (pv 0) pe_str))) (pss_one (ps_raise rfl (takes_of rfl rfl rfl rfl) (pmk_oex T.x_InvalidText T.xi_InvalidText T.xt_InvalidText G_InvalidText_init (hr.mono (by omega)) T.b_InvalidText_init .nil pass0 rfl T.m_InvalidText (pa_cons pe_int pa_nil)))) pss_nil)
    (pss_one (ps_ret (pe_split (pe_slice sl_str (pv 0) po_none (po_some (pe_un un_neg pe_int))) pe_str)))), ?_⟩
  have z : t.length ≤ sizeLine := Nat.le_trans ht (by decide)
  refine ⟨_, rfl, ⟨_, rfl⟩, t, nl1, rfl, rfl, _, rfl, ?_⟩
  rw [ends_nl]
  by_cases h : (tl t).getLast? = some 10
  · refine if_false_of (by rw [decide_eq_true h]; rfl) ?_
    refine ⟨_, rfl, 1, rfl, -1, rfl, t, rfl, z, ⟨_, rfl⟩, _, nl1, rfl, rfl, by decide +kernel, ?_, fun p hp => ?_⟩
    · have := cutS_length t none (some (-1))
      exact Nat.le_trans (Nat.add_le_add_right (Nat.le_trans this ht) 2) (by decide)
    · refine q1 h p _ (Same.new hp _) hp ?_
      obtain ⟨M, c, e⟩ : ∃ M c, tl t = M ++ [c] := ⟨_, _, (List.dropLast_concat_getLast (fun e => by rw [e] at h; cases h)).symm⟩
      rw [e, List.getLast?_concat] at h
      cases h
      rw [← split_cut (u := cutS t none (some (-1))) (by rw [cut_last, e, List.dropLast_concat])]
      exact upd_same
  · exact if_true_of (by rw [decide_eq_false h]; rfl) (made_one (q2 h))
theorem ok_deed_of (T : Tops w K mg) (G_is_name : FnOk P w K mg base CX0 1 T.a_is_name T.d_is_name ["value"] spIsNameS) :
    FnOk P w K mg base CX0 2 T.a_deed_of T.d_deed_of ["items"] (spDeedOf K) := by
  refine T.F_deed_of.ok sc_deed_of (fun vs H Q E h => ?_) (fun cdv A outer s H vs Q E hr h => ?_)
  · obtain ⟨l, ws, rfl, _⟩ := h; rfl
  obtain ⟨l, ws, rfl, hl, hne, hn, hz, q1, q2⟩ := h
  refine ⟨_, (pss_cons (ps_set (i := 1) sc_deed_of.nd rfl (Or.inl rfl) (pe_callTy (T := "tuple") call_tuple_of rfl T.z_tuple (by decide +kernel) (pa_cons (pe_slice sl_list (pv 0) (po_some pe_int) po_none) pa_nil)))
    (pss_cons (ps_if (pt_not (pt_val (pe_callB (cr_all rfl) rfl T.z_all (by decide +kernel) (pa_cons (pe_lc (own := [(("name" : Str), 3)]) (wi := (iTup K (tVar 1))) (g := gName 3) (tt := tYes) (te := (tCall spIsNameS [] E0 (tCons (tVar 3) tNil))) rfl sc_deed_of.nd (pi_tup (pv 1)) (blkOk_by (own := [(("name" : Str), 3)]) (N := N_deed_of) (sc := defScope s_deed_of) (by decide +kernel)) (fun _ _ _ _ _ => (pg_name (i := 3) sc_deed_of.nd rfl (Or.inl rfl))) (fun _ _ _ _ _ => pts_nil) (fun _ _ _ _ _ => (pe_call G_is_name (hr.mono (by omega)) rfl T.m_is_name T.F_is_name.kp T.b_is_name .nil pass0 (pa_cons (pv 3) pa_nil)))) pa_nil)))) (pss_one (ps_ret pe_non)) pss_nil)
    (C8.pss_cut (ps_if (PW.pt (pw_or (PW.pt (pw_and (pt_cmpR op_eq (pe_ix ix_list (pv 0) pe_int (fun _ _ => rfl)) pe_str (nomark _)) (pw_and1 (pt_cmpR op_eq (pe_callB call_len rfl T.z_len PySem.boot_len (pa_cons (pv 1) pa_nil)) pe_int (nomark _))))) (pw_or1 (PW.pt (pw_and (pt_cmpR op_eq (pe_ix ix_list (pv 0) pe_int (fun _ _ => rfl)) pe_str (nomark _)) (pw_and1 (pt_cmpR op_eq (pe_callB call_len rfl T.z_len PySem.boot_len (pa_cons (pv 1) pa_nil)) pe_int (nomark _)))))))) (pss_one (ps_ret (pe_callTy (T := "tuple") call_tuple_of rfl T.z_tuple (by decide +kernel) (pa_cons (pv 0) pa_nil)))) pss_nil)
    (C8.pss_cut (ps_if (PW.pt (pw_or (pt_cmpR op_ne (pe_ix ix_list (pv 0) pe_int (fun _ _ => rfl)) pe_str (nomark _)) (pw_or (pt_cmpR op_eq (pe_callB call_len rfl T.z_len PySem.boot_len (pa_cons (pv 1) pa_nil)) pe_int (nomark _)) (pw_or1 (pt_cmpR op_eq (pe_op op_modN (pe_callB call_len rfl T.z_len PySem.boot_len (pa_cons (pv 1) pa_nil)) pe_int) pe_int (nomark _)))))) (pss_one (ps_ret pe_non)) pss_nil)
    (pss_cons (ps_set (i := 2) sc_deed_of.nd rfl (Or.inl rfl) (pe_step (pv 1) po_none pe_int))
    (pss_cons (ps_if (pt_cmpR op_lt (pe_lenSetT rfl rfl T.z_len rfl T.z_set (pv 2)) (pe_callB call_len rfl T.z_len PySem.boot_len (pa_cons (pv 2) pa_nil)) (nomark _)) (pss_one (ps_ret pe_non)) pss_nil)
    (pss_one (ps_ret (pe_tup (pa_cons pe_str (pa_cons (pe_tupZip rfl rfl T.z_tuple rfl T.z_zip (pa_cons (pv 2) (pa_cons (pe_step (pv 1) (po_some pe_int) pe_int) pa_nil))) pa_nil))))))))))), ?_⟩
  obtain ⟨h, t, rfl⟩ : ∃ h t, ws = h :: t := by cases ws with | nil => exact absurd rfl hne | cons h t => exact ⟨h, t, rfl⟩
  have tn : t.length ≤ 3000 := by simp only [List.length_cons] at hn; omega
  refine ⟨_, rfl, 1, rfl, l, _, rfl, SqL.of hl, fun p0 hp0 => ?_⟩
  rw [show cutV ((h :: t).map V.str) (some 1) none = t.map V.str from cut_tail _ _]
  have sa := Same.new hp0 (.lst (t.map V.str))
  refine ⟨p0, _, rfl, .inl ⟨SqL.of upd_same, fun n hn0 => ?_⟩⟩
  have sb := sa.trans (Same.new hn0 (.tup (t.map V.str)))
  have hN : SqT K (upd (upd H p0 (.lst (t.map V.str))) n (.tup (t.map V.str))) n (t.map V.str) := SqT.of upd_same
  have el : (t.map V.str).length = t.length := List.length_map _
  show tSeq _ _ _ _ (upd (upd H p0 (.lst (t.map V.str))) n (.tup (t.map V.str)))
  generalize upd (upd H p0 (.lst (t.map V.str))) n (.tup (t.map V.str)) = H2 at sb hN
  refine ⟨_, rfl, n, rfl, ⟨_, hN⟩, fun D hD => lc_tup (K := K) (a := n) (xs := t.map V.str) (fun i H' => Same H2 H' ∧ H' D = some (.lst (((t.take i).map isNm).map V.bl)))
    ⟨Same.new hD _, upd_same⟩ (fun i H' _ ⟨s', _⟩ => SqT.same s' hN) ?_ ?_⟩
  · rintro i x H' hx ⟨s', hb⟩
    rw [List.getElem?_map] at hx
    obtain ⟨z, hz', rfl⟩ := Option.map_eq_some_iff.mp hx
    have hi : i < t.length := (List.getElem?_eq_some_iff.mp hz').1
    refine ⟨rfl, ?_⟩
    refine tYes_of ?_
    refine ⟨_, rfl, z, rfl, Nat.le_trans (hz z (List.mem_cons_of_mem _ (List.mem_of_getElem? hz'))) (by decide), fun H4 s4 => ⟨_, s4 _ _ hb, ?_, K41.Same.own (s'.trans s4) hD, ?_⟩⟩
    · rw [List.length_map, List.length_map, List.length_take]
      exact Nat.lt_of_le_of_lt (by omega : min i t.length ≤ 3000) (by decide)
    · rw [List.take_succ, hz', List.map_append, List.map_append]
      exact upd_same
  · rintro H3 ⟨s', hb⟩
    rw [el, List.take_length] at hb
    have s3 := sb.trans s'
    have hN3 := SqT.same s' hN
    have hl3 := s3 _ _ hl
    refine ⟨D, _, rfl, SqL.of hb, _, rfl, ?_⟩
    rw [all_bl]
    cases ha : t.all isNm with
    | false => exact if_true_of rfl (q1 (said_bad ha) _ s3)
    | true =>
      refine if_false_of rfl ?_
      by_cases c : h = "write" ∧ t.length = 2 ∨ h = "read" ∧ t.length = 1
      · refine ⟨fun _ _ => False, ?_, fun _ _ x => x.elim⟩
        have fin : ∀ p, H3 p = none → Q (.ref p) (upd H3 p (.tup ((h :: t).map V.str))) := fun p hp => by
          obtain ⟨d, hd, hdd⟩ := cond_wr c ha
          exact q2 d hd _ _ (s3.trans (Same.new hp _)) (by rw [hdd]; exact Tn.new (TnAll.strs _) hp)
        by_cases c1 : h = "write"
        · have c2 : t.length = 2 := by rcases c with ⟨_, c⟩ | ⟨c, _⟩; exact c; rw [c1] at c; exact absurd c (by decide)
          refine ⟨_, rfl, l, _, 0, .str h, rfl, rfl, SqL.of hl3, atI_nat (j := 0) rfl, rfl, _, rfl, ?_⟩
          refine if_true_of (decide_eq_true (congrArg V.str c1)) ?_
          refine ⟨_, rfl, .ref n, _, rfl, .inr ⟨_, hN3, rfl⟩, rfl, _, rfl, ?_⟩
          refine if_true_of (decide_eq_true (by rw [el, c2]; rfl)) ?_
          exact ⟨_, rfl, l, _, rfl, .inl ⟨SqL.of hl3, fin⟩⟩
        · obtain ⟨c2, c3⟩ : h = "read" ∧ t.length = 1 := by rcases c with ⟨c, _⟩ | c; exact absurd c c1; exact c
          refine ⟨_, rfl, l, _, 0, .str h, rfl, rfl, SqL.of hl3, atI_nat (j := 0) rfl, rfl, _, rfl, ?_⟩
          refine if_false_of (decide_eq_false (fun x => c1 (V.str.inj x))) ?_
          refine ⟨_, rfl, l, _, 0, .str h, rfl, rfl, SqL.of hl3, atI_nat (j := 0) rfl, rfl, _, rfl, ?_⟩
          refine if_true_of (decide_eq_true (congrArg V.str c2)) ?_
          refine ⟨_, rfl, .ref n, _, rfl, .inr ⟨_, hN3, rfl⟩, rfl, _, rfl, ?_⟩
          refine if_true_of (decide_eq_true (by rw [el, c3]; rfl)) ?_
          exact ⟨_, rfl, l, _, rfl, .inl ⟨SqL.of hl3, fin⟩⟩
      · refine ⟨fun σ' H' => σ' = [some (.ref l), some (.ref n), none, none] ∧ H3 = H', ?_, ?_⟩
        · by_cases c1 : h = "write"
          · have c2 : ¬ t.length = 2 := fun e => c (.inl ⟨c1, e⟩)
            have c3 : ¬ h = "read" := fun e => by rw [c1] at e; exact absurd e (by decide)
            refine ⟨_, rfl, l, _, 0, .str h, rfl, rfl, SqL.of hl3, atI_nat (j := 0) rfl, rfl, _, rfl, ?_⟩
            refine if_true_of (decide_eq_true (congrArg V.str c1)) ?_
            refine ⟨_, rfl, .ref n, _, rfl, .inr ⟨_, hN3, rfl⟩, rfl, _, rfl, ?_⟩
            refine if_false_of (decide_eq_false (fun x => c2 (by rw [el] at x; have := V.int.inj x; omega))) ?_
            refine ⟨_, rfl, l, _, 0, .str h, rfl, rfl, SqL.of hl3, atI_nat (j := 0) rfl, rfl, _, rfl, ?_⟩
            refine if_false_of (decide_eq_false (fun x => c3 (V.str.inj x))) ?_
            exact ⟨rfl, rfl⟩
          · by_cases c2 : h = "read"
            · have c3 : ¬ t.length = 1 := fun e => c (.inr ⟨c2, e⟩)
              refine ⟨_, rfl, l, _, 0, .str h, rfl, rfl, SqL.of hl3, atI_nat (j := 0) rfl, rfl, _, rfl, ?_⟩
              refine if_false_of (decide_eq_false (fun x => c1 (V.str.inj x))) ?_
              refine ⟨_, rfl, l, _, 0, .str h, rfl, rfl, SqL.of hl3, atI_nat (j := 0) rfl, rfl, _, rfl, ?_⟩
              refine if_true_of (decide_eq_true (congrArg V.str c2)) ?_
              refine ⟨_, rfl, .ref n, _, rfl, .inr ⟨_, hN3, rfl⟩, rfl, _, rfl, ?_⟩
              refine if_false_of (decide_eq_false (fun x => c3 (by rw [el] at x; have := V.int.inj x; omega))) ?_
              exact ⟨rfl, rfl⟩
            · skip
              refine ⟨_, rfl, l, _, 0, .str h, rfl, rfl, SqL.of hl3, atI_nat (j := 0) rfl, rfl, _, rfl, ?_⟩
              refine if_false_of (decide_eq_false (fun x => c1 (V.str.inj x))) ?_
              refine ⟨_, rfl, l, _, 0, .str h, rfl, rfl, SqL.of hl3, atI_nat (j := 0) rfl, rfl, _, rfl, ?_⟩
              refine if_false_of (decide_eq_false (fun x => c2 (V.str.inj x))) ?_
              exact ⟨rfl, rfl⟩
        rintro σ' H' ⟨rfl, rfl⟩
        have sd := said_bt c ha
        by_cases b : h ≠ "batch" ∨ t.length = 0 ∨ t.length % 2 = 1
        · rw [if_pos b] at sd
          have qn := q1 sd _ s3
          refine ⟨fun _ _ => False, ?_, fun _ _ x => x.elim⟩
          by_cases b1 : h = "batch"
          · skip
            refine ⟨_, rfl, l, _, 0, .str h, rfl, rfl, SqL.of hl3, atI_nat (j := 0) rfl, rfl, _, rfl, ?_⟩
            refine if_false_of (by rw [decide_eq_true (congrArg V.str b1)]; rfl) ?_
            refine ⟨_, rfl, .ref n, _, rfl, .inr ⟨_, hN3, rfl⟩, rfl, _, rfl, ?_⟩
            by_cases b2 : t.length = 0
            · exact if_true_of (decide_eq_true (by rw [el, b2]; rfl)) (if_true_of rfl qn)
            · refine if_false_of (decide_eq_false (fun x => b2 (by rw [el] at x; have := V.int.inj x; omega))) ?_
              have b3 : t.length % 2 = 1 := by rcases b with b | b | b; exact absurd b1 b; exact absurd b b2; exact b
              refine ⟨_, rfl, .ref n, _, rfl, .inr ⟨_, hN3, rfl⟩, _, _, rfl, rfl, (by show (2 : Int) ≠ 0; decide), rfl, _, rfl, ?_⟩
              rw [el, show decide (V.int (((t.length : Nat) : Int).fmod 2) = V.int 1) = true from decide_eq_true (congrArg V.int (by rw [Int.fmod_eq_emod_of_nonneg _ (by decide)]; omega))]
              exact if_true_of rfl qn
          · skip
            refine ⟨_, rfl, l, _, 0, .str h, rfl, rfl, SqL.of hl3, atI_nat (j := 0) rfl, rfl, _, rfl, ?_⟩
            refine if_true_of (by rw [decide_eq_false (fun x => b1 (V.str.inj x))]; rfl) ?_
            exact if_true_of rfl qn
        · have b1 : h = "batch" := Classical.byContradiction fun x => b (.inl x)
          have b2 : ¬ t.length = 0 := fun x => b (.inr (.inl x))
          have b3 : t.length % 2 = 0 := by have := fun x => b (.inr (.inr x)); omega
          rw [if_neg b] at sd
          refine ⟨fun σ' H' => σ' = [some (.ref l), some (.ref n), none, none] ∧ H3 = H', ?_, ?_⟩
          · skip
            refine ⟨_, rfl, l, _, 0, .str h, rfl, rfl, SqL.of hl3, atI_nat (j := 0) rfl, rfl, _, rfl, ?_⟩
            refine if_false_of (by rw [decide_eq_true (congrArg V.str b1)]; rfl) ?_
            refine ⟨_, rfl, .ref n, _, rfl, .inr ⟨_, hN3, rfl⟩, rfl, _, rfl, ?_⟩
            refine if_false_of (decide_eq_false (fun x => b2 (by rw [el] at x; have := V.int.inj x; omega))) ?_
            refine ⟨_, rfl, .ref n, _, rfl, .inr ⟨_, hN3, rfl⟩, _, _, rfl, rfl, (by show (2 : Int) ≠ 0; decide), rfl, _, rfl, ?_⟩
            rw [el, show decide (V.int (((t.length : Nat) : Int).fmod 2) = V.int 1) = false from decide_eq_false (fun x => by have := V.int.inj x; rw [Int.fmod_eq_emod_of_nonneg _ (by decide)] at this; omega)]
            exact ⟨rfl, rfl⟩
          rintro σ' H' ⟨rfl, rfl⟩
          obtain ⟨sn1, sn2⟩ := stp_names b3
          have pl : (pairUp t).length ≤ 1500 := by have := pairUp_len t b3; omega
          refine ⟨_, rfl, rfl, n, _, 0, rfl, hN3, .inl ⟨rfl, rfl⟩, fun m hm => ?_⟩
          rw [sn1]
          have s4 := Same.new hm (.tup (((pairUp t).map (·.1)).map V.str))
          have hM : SqT K (upd H3 m (.tup (((pairUp t).map (·.1)).map V.str))) m (((pairUp t).map (·.1)).map V.str) := SqT.of upd_same
          have s34 := s3.trans s4
          have hN4 := SqT.same s4 hN3
          show tSeq _ _ _ _ (upd H3 m (.tup (((pairUp t).map (·.1)).map V.str)))
          generalize upd H3 m (.tup (((pairUp t).map (·.1)).map V.str)) = H4 at s4 hM s34 hN4
          refine ⟨_, rfl, m, _, rfl, hM, by rw [List.length_map]; omega, _, rfl, .ref m, _, rfl, .inr ⟨_, hM, rfl⟩, _, _, rfl, rfl, _, rfl, ?_⟩
          have dl : decide (((TdSet.dcnt ((pairUp t).map (·.1)) ((pairUp t).map (·.1)).length : Nat) : Int) < ((((pairUp t).map (·.1)).map V.str).length : Nat)) = !decide ((pairUp t).map (·.1)).Nodup := by
            rw [List.length_map (f := V.str)]
            exact dcnt_lt
          by_cases nd : ((pairUp t).map (·.1)).Nodup
          · rw [if_pos nd] at sd
            refine if_false_of (dl.trans (by rw [decide_eq_true nd]; rfl)) ?_
            refine ⟨_, rfl, _, rfl, 1, rfl, rfl, n, _, 1, rfl, hN4, .inr ⟨rfl, by rw [el]; omega⟩, fun m2 hm2 => ?_⟩
            rw [sn2]
            have s5 := Same.new hm2 (.tup (((pairUp t).map (·.2)).map V.str))
            refine ⟨m, m2, (pairUp t).map fun p => (Sum.inr p.1 : Key), _, rfl, ?_, SqT.of upd_same, by simp, fun H6 p ts s6 hp0 hp hts => ?_⟩
            · have e : ((pairUp t).map fun p => (Sum.inr p.1 : Key)).map kV = ((pairUp t).map (·.1)).map V.str := by rw [List.map_map, List.map_map]; rfl
              show SqT K _ m _
              rw [e]
              exact SqT.same s5 hM
            · rw [List.map_map] at hts
              have tn6 : Tn K H6 (.ref p) (.tuple ((pairUp t).map wpD)) := .tup (SqT.of hp) (pairs_tn hts)
              refine ⟨by show 2 ≤ sizeLine; decide, fun r hr => ?_⟩
              exact q2 _ sd _ _ ((s34.trans (s5.trans s6)).trans (Same.new hr _)) (Tn.new (.cons (.str "batch") (.cons tn6 .nil)) hr)
          · rw [if_neg nd] at sd
            exact if_true_of (dl.trans (by rw [decide_eq_false nd]; rfl)) (q1 sd _ s34)
theorem ok_law_said (T : Tops w K mg) (G__law_is_name : FnOk P w K mg base CX0 1 T.a__law_is_name T.d__law_is_name ["_law_value"] spIsNameS) :
    FnOk P w K mg base CX0 2 T.a__law_said T.d__law_said ["_law_line_here"] (spSaid K) := by
  refine T.F__law_said.ok sc_law_said (fun vs H Q E h => ?_) (fun cdv A outer s H vs Q E hr h => ?_)
  · obtain ⟨t, ws, rfl, _⟩ := h; rfl
  obtain ⟨t, ws, rfl, ew, ht, q1, q2⟩ := h
  refine ⟨_, (pss_cons (ps_set (i := 1) sc_law_said.nd rfl (Or.inl rfl) (pe_split (pv 0) pe_str))
    (pss_cons (ps_for PassesOwn.never rfl (pi_list (pe_slice sl_list (pv 1) (po_some pe_int) po_none)) (pg_name (i := 2) sc_law_said.nd rfl (Or.inl rfl)) (pss_one (ps_if (pt_not (pt_val (pe_call G__law_is_name (hr.mono (by omega)) rfl T.m__law_is_name T.F__law_is_name.kp T.b__law_is_name .nil pass0 (pa_cons (pv 2) pa_nil)))) (pss_one (ps_ret pe_non)) pss_nil)))
    (C8.pss_cut (ps_if (PW.pt (pw_or (PW.pt (pw_and (pt_cmpR op_eq (pe_ix ix_list (pv 1) pe_int (fun _ _ => rfl)) pe_str (nomark _)) (pw_and1 (pt_cmpR op_eq (pe_callB call_len rfl T.z_len PySem.boot_len (pa_cons (pv 1) pa_nil)) pe_int (nomark _))))) (pw_or1 (PW.pt (pw_and (pt_cmpR op_eq (pe_ix ix_list (pv 1) pe_int (fun _ _ => rfl)) pe_str (nomark _)) (pw_and1 (pt_cmpR op_eq (pe_callB call_len rfl T.z_len PySem.boot_len (pa_cons (pv 1) pa_nil)) pe_int (nomark _)))))))) (pss_one (ps_ret (pe_callTy (T := "tuple") call_tuple_of rfl T.z_tuple (by decide +kernel) (pa_cons (pv 1) pa_nil)))) pss_nil)
    (C8.pss_cut (ps_if (PW.pt (pw_or (pt_cmpR op_ne (pe_ix ix_list (pv 1) pe_int (fun _ _ => rfl)) pe_str (nomark _)) (pw_or (pt_cmpR op_lt (pe_callB call_len rfl T.z_len PySem.boot_len (pa_cons (pv 1) pa_nil)) pe_int (nomark _)) (pw_or1 (pt_cmpR op_eq (pe_op op_mul (pe_op op_fdivW (pe_callB call_len rfl T.z_len PySem.boot_len (pa_cons (pv 1) pa_nil)) pe_int) pe_int) (pe_callB call_len rfl T.z_len PySem.boot_len (pa_cons (pv 1) pa_nil)) (nomark _)))))) (pss_one (ps_ret pe_non)) pss_nil)
    (pss_cons (ps_set (i := 3) sc_law_said.nd rfl (Or.inl rfl) (pe_lst pa_nil))
    (pss_cons (ps_for PassesOwn.never rfl (pi_range1 rfl T.z_range (pa_cons (pe_op op_fdivW (pe_callB call_len rfl T.z_len PySem.boot_len (pa_cons (pv 1) pa_nil)) pe_int) pa_nil)) (pg_name (i := 4) sc_law_said.nd rfl (Or.inl rfl)) (pss_cons (ps_if (pt_cmpR op_in_seq (pe_ix ix_list (pv 1) (pe_op op_add (pe_op op_mul pe_int (pv 4)) pe_int) (fun _ _ => rfl)) (pe_lc (own := [(("_law_pair" : Str), 5)]) (wi := (iList K (tVar 3))) (g := gName 5) (tt := tYes) (te := (tOp (rIxT K) (tVar 5) (tC (.int 0)))) rfl sc_law_said.nd (pi_list (pv 3)) (blkOk_by (own := [(("_law_pair" : Str), 5)]) (N := N_law_said) (sc := defScope s_law_said) (by decide +kernel)) (fun _ _ _ _ _ => (pg_name (i := 5) sc_law_said.nd rfl (Or.inl rfl))) (fun _ _ _ _ _ => pts_nil) (fun _ _ _ _ _ => (pe_ix (r := (rIxT K)) ix_tup (pv 5) pe_int (fun _ _ => rfl)))) (by rfl)) (pss_one (ps_ret pe_non)) pss_nil)
    (pss_one (ps_expr (pe_bm PySem.F.plainAttrs_list PySem.F.slot_list_append PySem.F.type_list_append mt_append (pv 3) (pa_cons (pe_tup (pa_cons (pe_ix ix_list (pv 1) (pe_op op_add (pe_op op_mul pe_int (pv 4)) pe_int) (fun _ _ => rfl)) (pa_cons (pe_ix ix_list (pv 1) (pe_op op_add (pe_op op_mul pe_int (pv 4)) pe_int) (fun _ _ => rfl)) pa_nil))) pa_nil))))))
    (pss_one (ps_ret (pe_tup (pa_cons pe_str (pa_cons (pe_callTy (T := "tuple") call_tuple_of rfl T.z_tuple (by decide +kernel) (pa_cons (pv 3) pa_nil)) pa_nil))))))))))), ?_⟩
  obtain ⟨hne, hn, hz⟩ := split_sizes ew ht
  refine ⟨_, rfl, ⟨_, rfl⟩, t, sp1, rfl, rfl, by decide +kernel, Nat.le_trans (Nat.add_le_add_right ht 2) (by decide), fun l hl0 => ?_⟩
  rw [ew]
  obtain ⟨h, r, rfl⟩ : ∃ h r, ws = h :: r := by cases ws with | nil => exact absurd rfl hne | cons h r => exact ⟨h, r, rfl⟩
  have s1 := Same.new hl0 (.lst ((h :: r).map V.str))
  have hl1 : upd H l (.lst ((h :: r).map V.str)) l = some (.lst ((h :: r).map V.str)) := upd_same
  show tSeq _ _ _ _ (upd H l (.lst ((h :: r).map V.str)))
  generalize upd H l (.lst ((h :: r).map V.str)) = H1 at s1 hl1
  have el : ((h :: r).map V.str).length = r.length + 1 := List.length_map _
  have er : (r.map V.str).length = r.length := List.length_map _
  rw [List.length_cons] at hn
  refine ⟨_, rfl, 1, rfl, l, _, rfl, SqL.of hl1, fun c hc => ?_⟩
  rw [show cutV ((h :: r).map V.str) (some 1) none = r.map V.str from cut_tail _ _]
  have s2 := Same.new hc (.lst (r.map V.str))
  have hc2 : upd H1 c (.lst (r.map V.str)) c = some (.lst (r.map V.str)) := upd_same
  refine ⟨c, rfl, ⟨_, SqL.of hc2⟩, for_list (K := K) (a := c) (xs := r.map V.str) (fun i σ H' => ∃ v2 : Option V, σ = [some (.str t), some (.ref l), v2, none, none, none] ∧ Same (upd H1 c (.lst (r.map V.str))) H' ∧ (r.take i).all isNm = true)
    ⟨none, rfl, Same.refl _, rfl⟩ (fun i σ H' _ ⟨_, _, s', _⟩ => SqL.of (s' _ _ hc2)) ?_ ?_⟩
  · rintro i x σ H3 hx ⟨v2, rfl, s', ha⟩
    rw [List.getElem?_map] at hx
    obtain ⟨z, hz', rfl⟩ := Option.map_eq_some_iff.mp hx
    refine ⟨_, rfl, z, rfl, Nat.le_trans (hz z (List.mem_cons_of_mem _ (List.mem_of_getElem? hz'))) (by decide), fun H4 s4 => ⟨_, rfl, ?_⟩⟩
    cases hnm : isNm z with
    | false => exact if_true_of rfl (q1 (said_bad (List.all_eq_false.mpr ⟨z, List.mem_of_getElem? hz', by rw [hnm]; decide⟩)) _ (s1.trans (s2.trans (s'.trans s4))))
    | true => exact if_false_of rfl ⟨_, rfl, s'.trans s4, by rw [List.take_succ, hz', List.all_append, ha]; simp [hnm]⟩
  · rintro σ H3 ⟨v2, rfl, s', ha⟩
    rw [er, List.take_length] at ha
    have s3 := s1.trans (s2.trans s')
    have hl3 := s' _ _ (s2 _ _ hl1)
    by_cases c : h = "write" ∧ r.length = 2 ∨ h = "read" ∧ r.length = 1
    · refine ⟨fun _ _ => False, ?_, fun _ _ x => x.elim⟩
      have fin : ∀ p, H3 p = none → Q (.ref p) (upd H3 p (.tup ((h :: r).map V.str))) := fun p hp => by
        obtain ⟨d, hd, hdd⟩ := cond_wr c ha
        exact q2 d hd _ _ (s3.trans (Same.new hp _)) (by rw [hdd]; exact Tn.new (TnAll.strs _) hp)
      by_cases c1 : h = "write"
      · have c2 : r.length = 2 := by rcases c with ⟨_, c⟩ | ⟨c, _⟩; exact c; rw [c1] at c; exact absurd c (by decide)
        refine ⟨_, rfl, l, _, 0, .str h, rfl, rfl, SqL.of hl3, atI_nat (j := 0) rfl, rfl, _, rfl, ?_⟩
        refine if_true_of (decide_eq_true (congrArg V.str c1)) ?_
        refine ⟨_, rfl, .ref l, _, rfl, .inl ⟨_, SqL.of hl3, rfl⟩, rfl, _, rfl, ?_⟩
        refine if_true_of (decide_eq_true (by rw [el, c2]; rfl)) ?_
        exact ⟨_, rfl, l, _, rfl, .inl ⟨SqL.of hl3, fin⟩⟩
      · obtain ⟨c2, c3⟩ : h = "read" ∧ r.length = 1 := by rcases c with ⟨c, _⟩ | c; exact absurd c c1; exact c
        refine ⟨_, rfl, l, _, 0, .str h, rfl, rfl, SqL.of hl3, atI_nat (j := 0) rfl, rfl, _, rfl, ?_⟩
        refine if_false_of (decide_eq_false (fun x => c1 (V.str.inj x))) ?_
        refine ⟨_, rfl, l, _, 0, .str h, rfl, rfl, SqL.of hl3, atI_nat (j := 0) rfl, rfl, _, rfl, ?_⟩
        refine if_true_of (decide_eq_true (congrArg V.str c2)) ?_
        refine ⟨_, rfl, .ref l, _, rfl, .inl ⟨_, SqL.of hl3, rfl⟩, rfl, _, rfl, ?_⟩
        refine if_true_of (decide_eq_true (by rw [el, c3]; rfl)) ?_
        exact ⟨_, rfl, l, _, rfl, .inl ⟨SqL.of hl3, fin⟩⟩
    · refine ⟨fun σ' H' => σ' = [some (.str t), some (.ref l), v2, none, none, none] ∧ H3 = H', ?_, ?_⟩
      · by_cases c1 : h = "write"
        · have c2 : ¬ r.length = 2 := fun e => c (.inl ⟨c1, e⟩)
          have c3 : ¬ h = "read" := fun e => by rw [c1] at e; exact absurd e (by decide)
          refine ⟨_, rfl, l, _, 0, .str h, rfl, rfl, SqL.of hl3, atI_nat (j := 0) rfl, rfl, _, rfl, ?_⟩
          refine if_true_of (decide_eq_true (congrArg V.str c1)) ?_
          refine ⟨_, rfl, .ref l, _, rfl, .inl ⟨_, SqL.of hl3, rfl⟩, rfl, _, rfl, ?_⟩
          refine if_false_of (decide_eq_false (fun x => c2 (by rw [el] at x; have := V.int.inj x; omega))) ?_
          refine ⟨_, rfl, l, _, 0, .str h, rfl, rfl, SqL.of hl3, atI_nat (j := 0) rfl, rfl, _, rfl, ?_⟩
          refine if_false_of (decide_eq_false (fun x => c3 (V.str.inj x))) ?_
          exact ⟨rfl, rfl⟩
        · by_cases c2 : h = "read"
          · have c3 : ¬ r.length = 1 := fun e => c (.inr ⟨c2, e⟩)
            refine ⟨_, rfl, l, _, 0, .str h, rfl, rfl, SqL.of hl3, atI_nat (j := 0) rfl, rfl, _, rfl, ?_⟩
            refine if_false_of (decide_eq_false (fun x => c1 (V.str.inj x))) ?_
            refine ⟨_, rfl, l, _, 0, .str h, rfl, rfl, SqL.of hl3, atI_nat (j := 0) rfl, rfl, _, rfl, ?_⟩
            refine if_true_of (decide_eq_true (congrArg V.str c2)) ?_
            refine ⟨_, rfl, .ref l, _, rfl, .inl ⟨_, SqL.of hl3, rfl⟩, rfl, _, rfl, ?_⟩
            refine if_false_of (decide_eq_false (fun x => c3 (by rw [el] at x; have := V.int.inj x; omega))) ?_
            exact ⟨rfl, rfl⟩
          · skip
            refine ⟨_, rfl, l, _, 0, .str h, rfl, rfl, SqL.of hl3, atI_nat (j := 0) rfl, rfl, _, rfl, ?_⟩
            refine if_false_of (decide_eq_false (fun x => c1 (V.str.inj x))) ?_
            refine ⟨_, rfl, l, _, 0, .str h, rfl, rfl, SqL.of hl3, atI_nat (j := 0) rfl, rfl, _, rfl, ?_⟩
            refine if_false_of (decide_eq_false (fun x => c2 (V.str.inj x))) ?_
            exact ⟨rfl, rfl⟩
      rintro _ _ ⟨rfl, rfl⟩
      have sd := said_bt c ha
      by_cases b : h ≠ "batch" ∨ r.length = 0 ∨ r.length % 2 = 1
      · rw [if_pos b] at sd
        have qn := q1 sd _ s3
        refine ⟨fun _ _ => False, ?_, fun _ _ x => x.elim⟩
        by_cases b1 : h = "batch"
        · skip
          refine ⟨_, rfl, l, _, 0, .str h, rfl, rfl, SqL.of hl3, atI_nat (j := 0) rfl, rfl, _, rfl, ?_⟩
          refine if_false_of (by rw [decide_eq_true (congrArg V.str b1)]; rfl) ?_
          refine ⟨_, rfl, .ref l, _, rfl, .inl ⟨_, SqL.of hl3, rfl⟩, _, _, rfl, rfl, _, rfl, ?_⟩
          by_cases b2 : r.length < 2
          · exact if_true_of (by rw [el]; exact decide_eq_true (by omega)) qn
          · refine if_false_of (by rw [el]; exact decide_eq_false (by omega)) ?_
            have b3 : r.length % 2 = 1 := by rcases b with b | b | b; exact absurd b1 b; omega; exact b
            refine ⟨_, rfl, .ref l, _, rfl, .inl ⟨_, SqL.of hl3, rfl⟩, _, _, rfl, rfl, (by show (0 : Int) < 2 ∧ (2 : Int).natAbs.log2 < 9000; decide), _, _, rfl, rfl, .inr ⟨by decide, by decide⟩, _, rfl, .ref l, _, rfl, .inl ⟨_, SqL.of hl3, rfl⟩, rfl, _, rfl, ?_⟩
            refine if_true_of (decide_eq_true (congrArg V.int (by rw [el]; omega))) ?_
            exact qn
        · skip
          refine ⟨_, rfl, l, _, 0, .str h, rfl, rfl, SqL.of hl3, atI_nat (j := 0) rfl, rfl, _, rfl, ?_⟩
          refine if_true_of (by rw [decide_eq_false (fun x => b1 (V.str.inj x))]; rfl) ?_
          exact qn
      · have b1 : h = "batch" := Classical.byContradiction fun x => b (.inl x)
        have b2 : ¬ r.length = 0 := fun x => b (.inr (.inl x))
        have b3 : r.length % 2 = 0 := by have := fun x => b (.inr (.inr x)); omega
        rw [if_neg b] at sd
        refine ⟨fun σ' H' => σ' = [some (.str t), some (.ref l), v2, none, none, none] ∧ H3 = H', ?_, ?_⟩
        · skip
          refine ⟨_, rfl, l, _, 0, .str h, rfl, rfl, SqL.of hl3, atI_nat (j := 0) rfl, rfl, _, rfl, ?_⟩
          refine if_false_of (by rw [decide_eq_true (congrArg V.str b1)]; rfl) ?_
          refine ⟨_, rfl, .ref l, _, rfl, .inl ⟨_, SqL.of hl3, rfl⟩, _, _, rfl, rfl, _, rfl, ?_⟩
          refine if_false_of (by rw [el]; exact decide_eq_false (by omega)) ?_
          refine ⟨_, rfl, .ref l, _, rfl, .inl ⟨_, SqL.of hl3, rfl⟩, _, _, rfl, rfl, (by show (0 : Int) < 2 ∧ (2 : Int).natAbs.log2 < 9000; decide), _, _, rfl, rfl, .inr ⟨by decide, by decide⟩, _, rfl, .ref l, _, rfl, .inl ⟨_, SqL.of hl3, rfl⟩, rfl, _, rfl, ?_⟩
          refine if_false_of (decide_eq_false (fun x => by have := V.int.inj x; rw [el] at this; omega)) ?_
          exact ⟨rfl, rfl⟩
        rintro _ _ ⟨rfl, rfl⟩
        have pu := pairUp_len r b3
        have pl : (pairUp r).length ≤ 1500 := by omega
        have ej : (((((h :: r).map V.str).length : Nat) : Int) / 2) = (((pairUp r).length : Nat) : Int) := by rw [el]; omega
        refine ⟨by show 0 ≤ sizeLine; decide, fun pa hpa => ?_⟩
        have s4 := Same.new hpa (.lst [])
        have hl4 := s4 _ _ hl3
        have hp4 : upd H3 pa (.lst []) pa = some (.lst []) := upd_same
        generalize upd H3 pa (.lst []) = H4 at s4 hl4 hp4
        refine ⟨_, rfl, .ref l, _, rfl, .inl ⟨_, SqL.of hl4, rfl⟩, _, _, rfl, rfl, (by show (0 : Int) < 2 ∧ (2 : Int).natAbs.log2 < 9000; decide), (((pairUp r).length : Nat) : Int), congrArg (fun z => [V.int z]) ej, by omega, by omega, for_range (lo := 0) (n := (((pairUp r).length : Nat) : Int).toNat)
          (fun k σ H' => ∃ (v4 : Option V) (vs : List V), σ = [some (.str t), some (.ref l), v2, some (.ref pa), v4, none] ∧ Same H3 H' ∧ H' pa = some (.lst vs) ∧ TnAll K H' vs (((pairUp r).take k).map wpD) ∧ (((pairUp r).take k).map (·.1)).Nodup)
          ⟨none, [], rfl, s4, hp4, .nil, List.nodup_nil⟩ ?_ ?_⟩
        · rintro k σ H5 hk ⟨v4, vs, rfl, s5, hp5, hT, hnd⟩
          rw [Int.toNat_natCast] at hk
          obtain ⟨p, hp⟩ : ∃ p, (pairUp r)[k]? = some p := ⟨_, List.getElem?_eq_getElem hk⟩
          obtain ⟨a1, a2⟩ := pair_at b3 hp h
          have hl5 := s5 _ _ hl3
          have vl : vs.length = k := by rw [hT.length, List.length_map, List.length_take]; omega
          have e1 : atI ((h :: r).map V.str) (2 * ((0 : Int) + (k : Nat)) + 1) = some (.str p.1) := by
            rw [show (2 * ((0 : Int) + (k : Nat)) + 1) = ((2 * k + 1 : Nat) : Int) by omega]; exact atI_nat a1
          have e2 : atI ((h :: r).map V.str) (2 * ((0 : Int) + (k : Nat)) + 2) = some (.str p.2) := by
            rw [show (2 * ((0 : Int) + (k : Nat)) + 2) = ((2 * k + 2 : Nat) : Int) by omega]; exact atI_nat a2
          refine ⟨_, rfl, _, rfl, _, _, rfl, rfl, .inl ⟨by decide, by decide⟩, _, _, rfl, rfl, l, _, _, .str p.1, rfl, rfl, SqL.of hl5, e1, _, rfl, pa, rfl, ⟨_, SqL.of hp5⟩, fun D hD => lc_list (K := K) (a := pa) (xs := vs) (fun i H' => Same H5 H' ∧ H' D = some (.lst (((((pairUp r).take k).map (·.1)).take i).map V.str)))
            ⟨Same.new hD _, upd_same⟩ (fun i H' _ ⟨s', _⟩ => SqL.of (s' _ _ hp5)) ?_ ?_⟩
          · rintro i x H6 hx ⟨s6, h6⟩
            obtain ⟨pr, a, hpr, rfl, hA⟩ := lists_at hT hx
            have il : i < k := by have := (List.getElem?_eq_some_iff.mp hx).1; omega
            refine ⟨rfl, ?_⟩
            refine ⟨_, rfl, a, _, 0, _, rfl, rfl, SqT.same s6 hA, rfl, _, h6, ?_, K41.Same.own s6 hD, ?_⟩
            · rw [List.length_map, List.length_take]
              exact Nat.lt_of_le_of_lt (by omega : min i _ ≤ 3000) (by decide)
            · have : (((pairUp r).take k).map (·.1))[i]? = some pr.1 := by rw [List.getElem?_map, hpr]; rfl
              rw [List.take_succ, this, List.map_append]
              exact upd_same
          · rintro H6 ⟨s6, h6⟩
            have s36 := s5.trans s6
            rw [List.take_of_length_le (by rw [List.length_map, List.length_take, vl]; omega)] at h6
            refine ⟨D, _, rfl, .inl (SqL.of h6), rfl, L2.flat_strs _, _, rfl, ?_⟩
            by_cases hin : p.1 ∈ ((pairUp r).take k).map (·.1)
            · refine if_true_of (by show (inV _ _) = true; rw [inV_strs]; exact decide_eq_true hin) ?_
              have nnd : ¬ ((pairUp r).map (·.1)).Nodup := fun nd => by
                have := nodup_take nd (k + 1)
                rw [← List.map_take, List.take_succ, hp, List.map_append, List.nodup_append] at this
                exact this.2.2 p.1 hin p.1 (by simp) rfl
              rw [if_neg nnd] at sd
              exact q1 sd _ (s3.trans s36)
            · refine if_false_of (by show (inV _ _) = false; rw [inV_strs]; exact decide_eq_false hin) ?_
              have hl6 := s36 _ _ hl3
              have hp6 := s6 _ _ hp5
              refine ⟨_, rfl, .inl ⟨rfl, _, SqL.of hp6⟩, _, rfl, _, rfl, _, _, rfl, rfl, .inl ⟨by decide, by decide⟩, _, _, rfl, rfl, l, _, _, .str p.1, rfl, rfl, SqL.of hl6, e1, _, rfl, _, rfl, _, _, rfl, rfl, .inl ⟨by decide, by decide⟩, _, _, rfl, rfl, l, _, _, .str p.2, rfl, rfl, SqL.of hl6, e2, by show 2 ≤ sizeLine; decide, fun q hq => ?_⟩
              have s7 := Same.new hq (.tup [.str p.1, .str p.2])
              have hq7 : SqT K (upd H6 q (.tup [.str p.1, .str p.2])) q [.str p.1, .str p.2] := SqT.of upd_same
              generalize upd H6 q (.tup [.str p.1, .str p.2]) = H7 at s7 hq7
              have hp7 := s7 _ _ hp6
              refine ⟨pa, vs, _, rfl, rfl, hp7, Nat.lt_of_le_of_lt (by omega : vs.length ≤ 3000) (by decide), ?_⟩
              have tk8 : TK H7 (upd H7 pa (.lst (vs ++ [.ref q]))) := TK.upd (by rw [hp7]; trivial)
              refine ⟨_, _, rfl, K41.Same.own (s36.trans s7) hpa, upd_same, ?_, ?_⟩
              · rw [List.take_succ, hp, List.map_append]
                exact TnAll.append (TnAll.keep tk8 (TnAll.keep (TK.of_same (s6.trans s7)) hT)) (TnAll.one (.tup (SqT.tk tk8 hq7) (.cons (.str p.1) (.cons (.str p.2) .nil))))
              · rw [List.take_succ, hp, List.map_append]
                exact nodup_snoc hnd hin
        · rintro σ H5 ⟨v4, vs, rfl, s5, hp5, hT, hnd⟩
          rw [Int.toNat_natCast, List.take_length] at hT hnd
          rw [if_pos hnd] at sd
          refine ⟨_, rfl, pa, _, rfl, .inl ⟨SqL.of hp5, fun n hn0 => ⟨by show 2 ≤ sizeLine; decide, fun m hm => ?_⟩⟩⟩
          have s6 := Same.new hn0 (.tup vs)
          exact q2 _ sd _ _ ((s3.trans (s5.trans s6)).trans (Same.new hm _)) (Tn.new (.cons (.str "batch") (.cons (Tn.new hT hn0) .nil)) hm)
end
end K41
namespace K41
open PySem PySem.Spec PyProof.Rows L2 Td TL
theorem parts_at {K : PySem.W.Frag} {H : Hp} {v : V} {p : PP} (h : Tn K H v p.data) : ∃ (pa aw as : Addr) (vd ve : V), v = .ref pa ∧ SqT K H pa [.ref aw, .ref as, vd, ve] ∧ SqT K H aw (p.words.map V.str) ∧ SqT K H as (p.sources.map V.str) ∧ Tn K H vd (pairsD p.derived) ∧ Tn K H ve (pairsD p.effects) := by
  obtain ⟨pa, xs, rfl, hS, hT⟩ := Tn.tup_inv h
  cases hT with
  | cons c1 t1 =>
    cases t1 with
    | cons c2 t2 =>
      cases t2 with
      | cons c3 t3 =>
        cases t3 with
        | cons c4 t4 =>
          cases t4
          obtain ⟨aw, ws, rfl, hw, hw2⟩ := Tn.tup_inv c1
          obtain ⟨as, ss, rfl, hs, hs2⟩ := Tn.tup_inv c2
          have e1 := hw2.strs_inv
          have e2 := hs2.strs_inv
          subst e1 e2
          exact ⟨pa, aw, as, _, _, rfl, hS, hw, hs, c3, c4⟩

theorem cell_nm {p : PP} {m : Nat} (ok : p.Ok m) {c : Str} (h : c ∈ p.sources ∨ c ∈ p.derived.map (·.1)) : isNm c = true := by
  refine ok.nn.good c ?_
  unfold PP.names
  rcases h with h | h
  · exact List.mem_append_left _ (List.mem_append_left _ h)
  · exact List.mem_append_left _ (List.mem_append_right _ h)
theorem stGo {H H' : Hp} {st sc : Addr} (h : StOk H st sc) (s : Same H H') : StOk H' st sc := by
  obtain ⟨cs, i, d, c, z, h1, h2, r⟩ := h
  exact ⟨cs, i, d, c, z, s _ _ h1, s _ _ h2, r⟩
theorem Keep.of_same {st : Addr} {H H' : Hp} (s : Same H H') : Keep st H H' := fun b o _ e => s b o e
theorem pick_at {L : List Str} {r : Int} (h0 : 0 ≤ r) (h1 : r < (((L.map V.str).length : Nat) : Int)) : ∃ (j : Nat) (z : Str), L[j]? = some z ∧ r = (j : Nat) ∧ atI (L.map V.str) r = some (.str z) := by
  rw [List.length_map] at h1
  obtain ⟨k, rfl⟩ : ∃ k : Nat, r = (k : Nat) := ⟨r.toNat, by omega⟩
  have hj : k < L.length := by omega
  refine ⟨k, L[k], List.getElem?_eq_getElem hj, rfl, atI_nat ?_⟩
  rw [List.getElem?_map, List.getElem?_eq_getElem hj]
  rfl
theorem pair_at0 {K : PySem.W.Frag} {H : Hp} {x : V} {q : Str × List Td.Row} (h : Tn K H x (pairD q)) : ∃ a v, x = .ref a ∧ SqT K H a [.str q.1, v] := by
  obtain ⟨a, xs, rfl, hS, hT⟩ := Tn.tup_inv h
  cases hT with
  | cons c1 t1 => cases c1; cases t1 with | cons c2 t2 => cases t2; exact ⟨a, _, rfl, hS⟩
theorem erase_facts {L : List Str} {k : Nat} {z : Str} (h : L[k]? = some z) (nd : L.Nodup) : (L.eraseIdx k).length + 1 = L.length ∧ (L.eraseIdx k).Nodup ∧ z ∉ L.eraseIdx k ∧ (∀ x ∈ L.eraseIdx k, x ∈ L) ∧ (L.map V.str).eraseIdx k = (L.eraseIdx k).map V.str := by
  have hk : k < L.length := (List.getElem?_eq_some_iff.mp h).1
  have e : L = L.take k ++ z :: L.drop (k + 1) := by
    have := (List.getElem?_eq_some_iff.mp h).2
    rw [← this, ← List.drop_eq_getElem_cons hk, List.take_append_drop]
  have e2 : L.eraseIdx k = L.take k ++ L.drop (k + 1) := List.eraseIdx_eq_take_drop_succ L k
  have nd2 : (z :: (L.take k ++ L.drop (k + 1))).Nodup := by
    rw [e] at nd
    exact List.perm_middle.nodup_iff.mp nd
  rw [← e2] at nd2
  rw [List.nodup_cons] at nd2
  refine ⟨by rw [List.length_eraseIdx_of_lt hk]; omega, nd2.2, nd2.1, fun x hx => List.mem_of_mem_eraseIdx hx, ?_⟩
  rw [e2, List.eraseIdx_eq_take_drop_succ, List.map_append, List.map_take, List.map_drop]
def spDeed (K : PySem.W.Frag) : Sp := fun vs H Q _ => ∃ (st sc : Addr) (v : V) (p : PP) (m : Nat), vs = [.ref st, v] ∧ StOk H st sc ∧ Tn K H v p.data ∧ p.Ok m ∧
  ∀ (u : V) (d : De) H', Keep st H H' → StOk H' st sc → d.Good → Tn K H' u d.data → Q u H'
section
variable {P : Program} {w : World} {K : PySem.W.Frag} {mg : Str → Option Value} {base : Heap}
theorem ok_law_deed (T : Tops w K mg) (G__law_draw : FnOk P w K mg base CX0 1 T.a__law_draw T.d__law_draw ["_law_state_here", "_law_many_here"] spDraw) :
    FnOk P w K mg base CX0 2 T.a__law_deed T.d__law_deed ["_law_state_here", "_law_parts_here"] (spDeed K) := by
  refine T.F__law_deed.ok sc_law_deed (fun vs H Q E h => ?_) (fun cdv A outer s H vs Q E hr h => ?_)
  · obtain ⟨st, sc, v, p, m, rfl, _⟩ := h; rfl
  obtain ⟨st, sc, v, p, m, rfl, ho, hD, ok, q⟩ := h
  refine ⟨_, (pss_cons (ps_set (i := 2) sc_law_deed.nd rfl (Or.inl rfl) (pe_call G__law_draw (hr.mono (by omega)) rfl T.m__law_draw T.F__law_draw.kp T.b__law_draw .nil pass0 (pa_cons (pv 0) (pa_cons pe_int pa_nil))))
    (pss_cons (ps_set (i := 3) sc_law_deed.nd rfl (Or.inl rfl) (pe_op op_cat (pe_callTy call_list_of rfl T.z_list (by decide +kernel) (pa_cons (pe_ix ix_tup (pv 1) pe_int (fun _ _ => rfl)) pa_nil)) (pe_lc (own := [(("_law_pair" : Str), 8)]) (wi := (iTup K (tOp (rIxT K) (tVar 1) (tC (.int 2))))) (g := gName 8) (tt := tYes) (te := (tOp (rIxT K) (tVar 8) (tC (.int 0)))) rfl sc_law_deed.nd (pi_tup (pe_ix ix_tup (pv 1) pe_int (fun _ _ => rfl))) (blkOk_by (own := [(("_law_pair" : Str), 8)]) (N := N_law_deed) (sc := defScope s_law_deed) (by decide +kernel)) (fun _ _ _ _ _ => (pg_name (i := 8) sc_law_deed.nd rfl (Or.inl rfl))) (fun _ _ _ _ _ => pts_nil) (fun _ _ _ _ _ => (pe_ix (r := (rIxT K)) ix_tup (pv 8) pe_int (fun _ _ => rfl))))))
    (pss_cons (ps_if (pt_cmpR op_eq (pv 2) pe_int (nomark _)) (pss_one (ps_ret (pe_tup (pa_cons pe_str (pa_cons (pe_ix ix_list (pv 3) (pe_call G__law_draw (hr.mono (by omega)) rfl T.m__law_draw T.F__law_draw.kp T.b__law_draw .nil pass0 (pa_cons (pv 0) (pa_cons (pe_callB call_len rfl T.z_len PySem.boot_len (pa_cons (pv 3) pa_nil)) pa_nil))) (fun _ _ => rfl)) pa_nil))))) pss_nil)
    (pss_cons (ps_if (pt_cmpR op_gt (pv 2) pe_int (nomark _)) (pss_cons (ps_set (i := 4) sc_law_deed.nd rfl (Or.inl rfl) (pe_ix ix_tup (pe_ix ix_tup (pv 1) pe_int (fun _ _ => rfl)) (pe_call G__law_draw (hr.mono (by omega)) rfl T.m__law_draw T.F__law_draw.kp T.b__law_draw .nil pass0 (pa_cons (pv 0) (pa_cons (pe_callB call_len rfl T.z_len PySem.boot_len (pa_cons (pe_ix ix_tup (pv 1) pe_int (fun _ _ => rfl)) pa_nil)) pa_nil))) (fun _ _ => rfl)))
    (pss_one (ps_ret (pe_tup (pa_cons pe_str (pa_cons (pv 4) (pa_cons (pe_ix ix_tup (pe_ix ix_tup (pv 1) pe_int (fun _ _ => rfl)) (pe_call G__law_draw (hr.mono (by omega)) rfl T.m__law_draw T.F__law_draw.kp T.b__law_draw .nil pass0 (pa_cons (pv 0) (pa_cons (pe_callB call_len rfl T.z_len PySem.boot_len (pa_cons (pe_ix ix_tup (pv 1) pe_int (fun _ _ => rfl)) pa_nil)) pa_nil))) (fun _ _ => rfl)) pa_nil))))))) pss_nil)
    (pss_cons (ps_set (i := 5) sc_law_deed.nd rfl (Or.inl rfl) (pe_callTy call_list_of rfl T.z_list (by decide +kernel) (pa_cons (pe_ix ix_tup (pv 1) pe_int (fun _ _ => rfl)) pa_nil)))
    (pss_cons (ps_set (i := 6) sc_law_deed.nd rfl (Or.inl rfl) (pe_lst pa_nil))
    (pss_cons (ps_for PassesOwn.never rfl (pi_range1 rfl T.z_range (pa_cons (pe_op op_add pe_int (pe_call G__law_draw (hr.mono (by omega)) rfl T.m__law_draw T.F__law_draw.kp T.b__law_draw .nil pass0 (pa_cons (pv 0) (pa_cons (pe_callB call_len rfl T.z_len PySem.boot_len (pa_cons (pv 5) pa_nil)) pa_nil)))) pa_nil)) (pg_name (i := 7) sc_law_deed.nd rfl (Or.inl rfl)) (pss_cons (ps_set (i := 4) sc_law_deed.nd rfl (Or.inl rfl) (pe_bm PySem.F.plainAttrs_list PySem.F.slot_list_pop PySem.F.type_list_pop mt_popAt (pv 5) (pa_cons (pe_call G__law_draw (hr.mono (by omega)) rfl T.m__law_draw T.F__law_draw.kp T.b__law_draw .nil pass0 (pa_cons (pv 0) (pa_cons (pe_callB call_len rfl T.z_len PySem.boot_len (pa_cons (pv 5) pa_nil)) pa_nil))) pa_nil)))
    (pss_one (ps_expr (pe_bm PySem.F.plainAttrs_list PySem.F.slot_list_append PySem.F.type_list_append mt_append (pv 6) (pa_cons (pe_tup (pa_cons (pv 4) (pa_cons (pe_ix ix_tup (pe_ix ix_tup (pv 1) pe_int (fun _ _ => rfl)) (pe_call G__law_draw (hr.mono (by omega)) rfl T.m__law_draw T.F__law_draw.kp T.b__law_draw .nil pass0 (pa_cons (pv 0) (pa_cons (pe_callB call_len rfl T.z_len PySem.boot_len (pa_cons (pe_ix ix_tup (pv 1) pe_int (fun _ _ => rfl)) pa_nil)) pa_nil))) (fun _ _ => rfl)) pa_nil))) pa_nil))))))
    (pss_one (ps_ret (pe_tup (pa_cons pe_str (pa_cons (pe_callTy (T := "tuple") call_tuple_of rfl T.z_tuple (by decide +kernel) (pa_cons (pv 6) pa_nil)) pa_nil)))))))))))), ?_⟩
  obtain ⟨pa, aw, as, vd, ve, rfl, hP, hW, hS, hd, he⟩ := parts_at hD
  obtain ⟨ad, xd, rfl, hA, hX⟩ := Tn.tup_inv hd
  have w2 := ok.w2; have w4 := ok.w4; have s1' := ok.s1; have s4' := ok.s4; have d6 := ok.d6
  have wl : (p.words.map V.str).length = p.words.length := List.length_map _
  have sl : (p.sources.map V.str).length = p.sources.length := List.length_map _
  have wnm : ∀ z ∈ p.words, isNm z = true := fun z hz => ok.wn.good z hz
  have snm : ∀ z ∈ p.sources, isNm z = true := fun z hz => cell_nm ok (.inl hz)
  refine ⟨_, rfl, st, sc, 6, rfl, by decide, by decide, ho, fun r H1 hr0 hr6 k1 o1 _ => ?_⟩
  have tk1 := TK.of_keep k1 ho.chg
  have hP1 := SqT.tk tk1 hP
  refine ⟨_, rfl, pa, _, 1, _, rfl, rfl, hP1, rfl, as, _, rfl, .inr (SqT.tk tk1 hS), fun l1 hl1 => ?_⟩
  have s1 := Same.new hl1 (.lst (p.sources.map V.str))
  have o1a := o1.new (o := .lst (p.sources.map V.str)) hl1
  have n1 := (o1.ne hl1).1
  have e1 : upd H1 l1 (.lst (p.sources.map V.str)) l1 = some (.lst (p.sources.map V.str)) := upd_same
  dsimp only
  generalize upd H1 l1 (.lst (p.sources.map V.str)) = H2 at s1 o1a e1
  refine ⟨_, rfl, pa, _, 2, _, rfl, rfl, SqT.same s1 hP1, rfl, ad, rfl, ⟨_, SqT.same s1 (SqT.tk tk1 hA)⟩, fun D hD' => lc_tup (K := K) (a := ad) (xs := xd) (fun i H' => Same H2 H' ∧ H' D = some (.lst (((p.derived.map (·.1)).take i).map V.str)))
    ⟨Same.new hD' _, upd_same⟩ (fun i H' _ ⟨s', _⟩ => SqT.same (s1.trans s') (SqT.tk tk1 hA)) ?_ ?_⟩
  · rintro i x H3 hx ⟨s3, h3⟩
    obtain ⟨d0, hd1, hd2⟩ := hX.get hx
    rw [List.getElem?_map] at hd1
    obtain ⟨qq, hqq, rfl⟩ := Option.map_eq_some_iff.mp hd1
    obtain ⟨a, v, rfl, hQ⟩ := pair_at0 hd2
    have il : i < p.derived.length := (List.getElem?_eq_some_iff.mp hqq).1
    refine ⟨rfl, ?_⟩
    refine ⟨_, rfl, a, _, 0, _, rfl, rfl, SqT.same (s1.trans s3) (SqT.tk tk1 hQ), rfl, _, h3, small1000 (by rw [List.length_map, List.length_take]; omega), K41.Same.own s3 hD', ?_⟩
    have : (p.derived.map (·.1))[i]? = some qq.1 := by rw [List.getElem?_map, hqq]; rfl
    rw [List.take_succ, this, List.map_append]
    exact upd_same
  rintro H3 ⟨s3, h3⟩
  have xl : xd.length = p.derived.length := by rw [hX.length, List.length_map]
  rw [List.take_of_length_le (by rw [List.length_map, xl]; omega)] at h3
  have o3 := stGo o1a s3
  refine ⟨l1, D, _, _, rfl, rfl, s3 _ _ e1, h3, Nat.le_of_lt (small1000 (by rw [List.length_map, List.length_map, List.length_map]; omega)), fun cl hcl => ?_⟩
  rw [← List.map_append]
  have o4 := o3.new (o := .lst ((p.sources ++ p.derived.map (·.1)).map V.str)) hcl
  have s4 := Same.new hcl (.lst ((p.sources ++ p.derived.map (·.1)).map V.str))
  have ncl := (o3.ne hcl).1
  have hC : upd H3 cl (.lst ((p.sources ++ p.derived.map (·.1)).map V.str)) cl = some (.lst ((p.sources ++ p.derived.map (·.1)).map V.str)) := upd_same
  have k4 : Keep st H (upd H3 cl (.lst ((p.sources ++ p.derived.map (·.1)).map V.str))) := k1.trans (K41.Keep.of_same (s1.trans (s3.trans s4)))
  generalize upd H3 cl (.lst ((p.sources ++ p.derived.map (·.1)).map V.str)) = H4 at o4 hC k4
  have tk4 := TK.of_keep k4 ho.chg
  have cll : ((p.sources ++ p.derived.map (·.1)).map V.str).length = p.sources.length + p.derived.length := by rw [List.length_map, List.length_append, List.length_map]
  refine ⟨_, rfl, rfl, _, rfl, ?_⟩
  by_cases r0 : r = 0
  · refine if_true_of (decide_eq_true (congrArg V.int r0)) ?_
    refine ⟨_, rfl, _, rfl, _, rfl, .ref cl, _, rfl, .inl ⟨_, SqL.of hC, rfl⟩, st, sc, _, rfl, by omega, by omega, o4, fun r2 H5 h0 h1 k5 o5 _ => ?_⟩
    obtain ⟨j, z, hz, hj, hat⟩ := pick_at h0 h1
    refine ⟨cl, _, _, _, rfl, rfl, SqL.of (k5 _ _ ncl hC), hat, by show 2 ≤ sizeLine; decide, fun t ht => ?_⟩
    have gz : isNm z = true := cell_nm ok (List.mem_append.mp (List.mem_of_getElem? hz))
    exact q _ (.rd z) _ ((k4.trans k5).trans (Keep.new ht)) (o5.new ht) gz (Tn.new (.cons (.str "read") (.cons (.str z) .nil)) ht)
  refine if_false_of (decide_eq_false (fun x => r0 (V.int.inj x))) ?_
  refine ⟨_, rfl, _, _, rfl, rfl, _, rfl, ?_⟩
  by_cases r2 : 2 < r
  · refine if_true_of (decide_eq_true r2) ?_
    have hP4 := SqT.tk tk4 hP
    have hS4 := SqT.tk tk4 hS
    have hW4 := SqT.tk tk4 hW
    refine ⟨_, rfl, pa, _, 1, _, rfl, rfl, hP4, rfl, _, rfl, _, rfl, pa, _, 1, _, rfl, rfl, hP4, rfl, .ref as, _, rfl, .inr ⟨_, hS4, rfl⟩, st, sc, _, rfl, by omega, by omega, o4, fun r3 H5 h0 h1 k5 o5 _ => ?_⟩
    obtain ⟨j, z, hz, hj, hat⟩ := pick_at h0 h1
    have tk5 := TK.of_keep k5 o4.chg
    have hP5 := SqT.tk tk5 hP4
    have hW5 := SqT.tk tk5 hW4
    refine ⟨as, _, _, _, rfl, rfl, SqT.tk tk5 hS4, hat, ?_⟩
    refine ⟨_, rfl, _, rfl, pa, _, 0, _, rfl, rfl, hP5, rfl, _, rfl, _, rfl, pa, _, 0, _, rfl, rfl, hP5, rfl, .ref aw, _, rfl, .inr ⟨_, hW5, rfl⟩, st, sc, _, rfl, by omega, by omega, o5, fun r4 H6 h2 h3' k6 o6 _ => ?_⟩
    obtain ⟨j2, z2, hz2, hj2, hat2⟩ := pick_at h2 h3'
    refine ⟨aw, _, _, _, rfl, rfl, SqT.tk (TK.of_keep k6 o5.chg) hW5, hat2, by show 3 ≤ sizeLine; decide, fun t ht => ?_⟩
    exact q _ (.wr z z2) _ (((k4.trans k5).trans k6).trans (Keep.new ht)) (o6.new ht) ⟨snm z (List.mem_of_getElem? hz), wnm z2 (List.mem_of_getElem? hz2)⟩ (Tn.new (.cons (.str "write") (.cons (.str z) (.cons (.str z2) .nil))) ht)
  refine if_false_of (decide_eq_false r2) ?_
  have nnd : p.sources.Nodup := by
    have := ok.nn.nd
    unfold PP.names at this
    exact (List.nodup_append.mp (List.nodup_append.mp this).1).1
  refine ⟨_, rfl, pa, _, 1, _, rfl, rfl, SqT.tk tk4 hP, rfl, as, _, rfl, .inr (SqT.tk tk4 hS), fun l5 hl5 => ?_⟩
  have n5 := o4.ne hl5
  have f5 := k4.free n5.1 hl5
  have o5 := o4.new (o := .lst (p.sources.map V.str)) hl5
  have k5 := k4.trans (Keep.new (st := st) (o := .lst (p.sources.map V.str)) hl5)
  have e5 : upd H4 l5 (.lst (p.sources.map V.str)) l5 = some (.lst (p.sources.map V.str)) := upd_same
  dsimp only
  generalize upd H4 l5 (.lst (p.sources.map V.str)) = H5 at o5 k5 e5
  refine ⟨by show 0 ≤ sizeLine; decide, fun l6 hl6 => ?_⟩
  have n6 := o5.ne hl6
  have f6 := k5.free n6.1 hl6
  have n56 : l5 ≠ l6 := ne_of_none e5 hl6
  have o6 := o5.new (o := .lst []) hl6
  have k6 := k5.trans (Keep.new (st := st) (o := .lst []) hl6)
  have e56 : upd H5 l6 (.lst []) l5 = some (.lst (p.sources.map V.str)) := by rw [upd_ne n56]; exact e5
  have e6 : upd H5 l6 (.lst []) l6 = some (.lst []) := upd_same
  generalize upd H5 l6 (.lst []) = H6 at o6 k6 e56 e6
  refine ⟨_, rfl, _, rfl, .ref l5, _, rfl, .inl ⟨_, SqL.of e56, rfl⟩, st, sc, _, rfl, by omega, by omega, o6, fun r7 H7 h0 h1 k7 o7 _ => ⟨_, _, rfl, rfl, 1 + r7, rfl, by omega, by omega, for_range (lo := 0) (n := (1 + r7).toNat)
    (fun i σ H' => ∃ (v4 v7 : Option V) (rest : List Str) (vs : List V) (ps : List (Str × Str)), σ = [some (.ref st), some (.ref pa), some (.int r), some (.ref cl), v4, some (.ref l5), some (.ref l6), v7, none] ∧ Keep st H H' ∧ StOk H' st sc ∧
      H' l5 = some (.lst (rest.map V.str)) ∧ H' l6 = some (.lst vs) ∧ TnAll K H' vs (ps.map wpD) ∧ ps.length = i ∧ rest.length + i = p.sources.length ∧ (∀ z ∈ rest, z ∈ p.sources) ∧ rest.Nodup ∧
      (∀ q ∈ ps, isNm q.1 = true ∧ isNm q.2 = true ∧ q.1 ∉ rest) ∧ (ps.map (·.1)).Nodup)
    ⟨none, none, p.sources, [], [], rfl, k6.trans k7, o7, k7 _ _ n5.1 e56, k7 _ _ n6.1 e6, .nil, rfl, rfl, fun z hz => hz, nnd, by simp, List.nodup_nil⟩ ?_ ?_⟩⟩
  · rintro i σ H8 hi ⟨v4, v7, rest, vs, ps, rfl, k8, o8, e5', e6', hT, hpl, hrl, hrs, hrn, hpn, hpd⟩
    have rl : ((rest.map V.str).length : Nat) = rest.length := List.length_map _
    refine ⟨_, rfl, .inl ⟨rfl, _, SqL.of e5'⟩, _, rfl, _, rfl, .ref l5, _, rfl, .inl ⟨_, SqL.of e5', rfl⟩, st, sc, _, rfl, by omega, by omega, o8, fun r8 H9 g0 g1 k9 o9 _ => ?_⟩
    obtain ⟨_, z, _, _, hat⟩ := pick_at g0 g1
    obtain ⟨k, hk, hky, _⟩ := atI_get hat
    have hrz : rest[k]? = some z := by
      rw [List.getElem?_map] at hky
      obtain ⟨z', h1', h2'⟩ := Option.map_eq_some_iff.mp hky
      cases h2'
      exact h1'
    obtain ⟨ef1, ef2, ef3, ef4, ef5⟩ := erase_facts hrz hrn
    refine ⟨l5, _, _, k, _, rfl, rfl, k9 _ _ n5.1 e5', by omega, by omega, hk, hky, ?_⟩
    rw [ef5]
    have o10 := o9.other (o := .lst ((rest.eraseIdx k).map V.str)) n5.1 n5.2
    have k10 : Keep st H (upd H9 l5 (.lst ((rest.eraseIdx k).map V.str))) := Keep.own (k8.trans k9) f5
    have tk10 : TK H8 (upd H9 l5 (.lst ((rest.eraseIdx k).map V.str))) := (TK.of_keep k9 o8.chg).trans (TK.upd (by rw [k9 _ _ n5.1 e5']; trivial))
    have e510 : upd H9 l5 (.lst ((rest.eraseIdx k).map V.str)) l5 = some (.lst ((rest.eraseIdx k).map V.str)) := upd_same
    have e610 : upd H9 l5 (.lst ((rest.eraseIdx k).map V.str)) l6 = some (.lst vs) := by rw [upd_ne n56.symm]; exact k9 _ _ n6.1 e6'
    generalize upd H9 l5 (.lst ((rest.eraseIdx k).map V.str)) = H10 at o10 k10 tk10 e510 e610
    have tkH := TK.of_keep k10 ho.chg
    have hP10 := SqT.tk tkH hP
    have hW10 := SqT.tk tkH hW
    refine ⟨_, rfl, .inl ⟨rfl, _, SqL.of e610⟩, _, rfl, _, rfl, pa, _, 0, _, rfl, rfl, hP10, rfl, _, rfl, _, rfl, pa, _, 0, _, rfl, rfl, hP10, rfl, .ref aw, _, rfl, .inr ⟨_, hW10, rfl⟩, st, sc, _, rfl, by omega, by omega, o10, fun r11 H11 m0 m1 k11 o11 _ => ?_⟩
    obtain ⟨_, z2, hz2, _, hat2⟩ := pick_at m0 m1
    have tk11 := TK.of_keep k11 o10.chg
    refine ⟨aw, _, _, _, rfl, rfl, SqT.tk tk11 hW10, hat2, by show 2 ≤ sizeLine; decide, fun t ht => ?_⟩
    have e611 := k11 _ _ n6.1 e610
    have vl : vs.length = i := by rw [hT.length, List.length_map, hpl]
    have e612 : upd H11 t (.tup [.str z, .str z2]) l6 = some (.lst vs) := by rw [upd_ne (ne_of_none e611 ht)]; exact e611
    refine ⟨l6, vs, _, rfl, rfl, e612, small1000 (by omega), ?_⟩
    have s12 := Same.new ht (.tup [.str z, .str z2])
    have tk12 : TK (upd H11 t (.tup [.str z, .str z2])) (upd (upd H11 t (.tup [.str z, .str z2])) l6 (.lst (vs ++ [.ref t]))) := TK.upd (by rw [e612]; trivial)
    have e5' : H11 l5 = some (.lst ((rest.eraseIdx k).map V.str)) := k11 _ _ n5.1 e510
    refine ⟨_, _, rest.eraseIdx k, _, ps ++ [(z, z2)], rfl, Keep.own ((k10.trans k11).trans (K41.Keep.of_same s12)) f6, (o11.new ht).other n6.1 n6.2, by rw [upd_ne n56]; exact s12 _ _ e5', upd_same, ?_, by simp [hpl], by omega, fun x hx => hrs x (ef4 x hx), ef2, ?_, ?_⟩
    · rw [List.map_append]
      exact TnAll.append (TnAll.keep (((tk10.trans tk11).trans (TK.of_same s12)).trans tk12) hT) (TnAll.one (.tup (SqT.tk tk12 (SqT.of upd_same)) (.cons (.str z) (.cons (.str z2) .nil))))
    · intro q hq
      rcases List.mem_append.mp hq with hq | hq
      · obtain ⟨a1, a2, a3⟩ := hpn q hq
        exact ⟨a1, a2, fun x => a3 (ef4 _ x)⟩
      · rw [List.mem_singleton] at hq
        subst hq
        exact ⟨snm z (hrs z (List.mem_of_getElem? hrz)), wnm z2 (List.mem_of_getElem? hz2), ef3⟩
    · rw [List.map_append]
      refine nodup_snoc hpd fun hx => ?_
      obtain ⟨q, hq, hq2⟩ := List.mem_map.mp hx
      exact (hpn q hq).2.2 (hq2 ▸ List.mem_of_getElem? hrz)
  · rintro σ H8 ⟨v4, v7, rest, vs, ps, rfl, k8, o8, e5', e6', hT, hpl, hrl, hrs, hrn, hpn, hpd⟩
    refine ⟨_, rfl, l6, _, rfl, .inl ⟨SqL.of e6', fun n hn => ⟨by show 2 ≤ sizeLine; decide, fun t ht => ?_⟩⟩⟩
    refine q _ (.bt ps) _ ((k8.trans (Keep.new hn)).trans (Keep.new ht)) ((o8.new hn).new ht) ⟨fun e => ?_, by omega, fun q hq => ⟨(hpn q hq).1, (hpn q hq).2.1⟩, hpd⟩ (Tn.new (.cons (.str "batch") (.cons (Tn.new hT hn) .nil)) ht)
    rw [e] at hpl
    simp at hpl
    omega
end
end K41
namespace K41
open PySem PySem.Spec PyProof.Rows L2 Td TL
theorem spl_two : ∀ (l acc : List Nat), 32 ∈ l → 2 ≤ (spl [32] 0 acc l).length
  | [], _, h => by simp at h
  | c :: r, acc, h => by
    by_cases e : c = 32
    · subst e
      rw [spl_hit (by rfl), List.length_cons]
      have := List.length_pos_iff.mpr (spl_ne [32] r [] ([32].length - 1))
      omega
    · rw [spl_miss (pre_of_head [] r e)]
      rcases List.mem_cons.mp h with h | h
      · exact absurd h.symm e
      · exact spl_two r _ h
theorem split_two {l : Str} (h : 32 ∈ tl l) : 2 ≤ (Txt.split l sp1).length := by
  have e := congrArg List.length (split_spl l sp1 (by rw [tl_sp]; simp) (kind_ok small_sp))
  rw [List.length_map, tl_sp] at e
  rw [e]
  exact spl_two _ _ h
def wgt (ls : List Str) : Nat := (ls.map (·.length)).sum + ls.length
theorem wgt_append (a b : List Str) : wgt (a ++ b) = wgt a + wgt b := by
  unfold wgt
  rw [List.map_append, List.sum_append, List.length_append]
  omega
theorem wgt_take (ls : List Str) (k : Nat) : wgt (ls.take k) + wgt (ls.drop k) = wgt ls := by rw [← wgt_append, List.take_append_drop]
theorem wgt_one (z : Str) : wgt [z] = z.length + 1 := by unfold wgt; simp
theorem wgt_cut (ls : List Str) (k : Nat) : wgt (ls.take k ++ ls.drop (k + 1)) ≤ wgt ls := by
  have h1 := wgt_take ls k
  have h2 := wgt_take (ls.drop k) 1
  rw [List.drop_drop, Nat.add_comm] at h2
  rw [wgt_append]
  omega
theorem wgt_join {ls : List Str} {n : Nat} (h : wgt ls ≤ n) (hn : n ≤ 5000) : (ls.map (·.length)).sum + ls.length * sp1.length ≤ 16777216 ∧ (Txt.join sp1 ls).length ≤ n := by
  have h5 : sp1.length = 1 := by decide +kernel
  have j := join_le sp1 ls
  rw [h5] at j ⊢
  unfold wgt at h
  exact ⟨by omega, by omega⟩
theorem cut_to (ws : List Str) {k : Nat} (h : k ≤ ws.length) : cutV (ws.map V.str) none (some (k : Int)) = (ws.take k).map V.str := by
  unfold cutV
  rw [HT.sIx_none, HT.sIx_nat, List.drop_zero, List.length_map, Nat.min_eq_left h, Nat.sub_zero, List.map_take]
theorem cut_behind (ws : List Str) (k : Nat) : cutV (ws.map V.str) (some ((k : Int) + 1)) none = (ws.drop (k + 1)).map V.str := by
  rw [show ((k : Int) + 1) = ((k + 1 : Nat) : Int) by omega, cut_from, List.map_drop]
theorem atI_neg2 {ws : List Str} (h : 2 ≤ ws.length) : ∃ z, z ∈ ws ∧ atI (ws.map V.str) (-2) = some (.str z) := by
  have hk : ws.length - 2 < ws.length := by omega
  refine ⟨ws[ws.length - 2], List.getElem_mem hk, ?_⟩
  have e : ixN (ws.map V.str).length (-2) = some (ws.length - 2) := by
    unfold ixN
    rw [List.length_map, if_neg (by decide), if_pos (by omega)]
    congr 1
    omega
  unfold atI
  rw [e]
  show (ws.map V.str)[ws.length - 2]? = _
  rw [List.getElem?_map, List.getElem?_eq_getElem hk]
  rfl
theorem of5000 {n : Nat} (h : n ≤ 5000) : n ≤ sizeLine := Nat.le_trans h (by decide)
def spBad (K : PySem.W.Frag) : Sp := fun vs H Q _ => ∃ (st sc : Addr) (l nm : Str), vs = [.ref st, .str l, .str nm] ∧ StOk H st sc ∧ 32 ∈ tl l ∧ l.length ≤ 700 ∧ nm.length ≤ 8 ∧
  ∀ (z : Str) H', Keep st H H' → StOk H' st sc → z.length ≤ 4 * l.length + 20 → Q (.str z) H'
section
variable {P : Program} {w : World} {K : PySem.W.Frag} {mg : Str → Option Value} {base : Heap}
theorem ok_law_bad (T : Tops w K mg) (G__law_draw : FnOk P w K mg base CX0 1 T.a__law_draw T.d__law_draw ["_law_state_here", "_law_many_here"] spDraw) :
    FnOk P w K mg base CX0 2 T.a__law_bad T.d__law_bad ["_law_state_here", "_law_line_here", "_law_name"] (spBad K) := by
  refine T.F__law_bad.ok sc_law_bad (fun vs H Q E h => ?_) (fun cdv A outer s H vs Q E hr h => ?_)
  · obtain ⟨st, sc, l, nm, rfl, _⟩ := h; rfl
  obtain ⟨st, sc, l, nm, rfl, ho, h32, hl, hnm, q⟩ := h
  refine ⟨_, (pss_cons (ps_set (i := 3) sc_law_bad.nd rfl (Or.inl rfl) (pe_call G__law_draw (hr.mono (by omega)) rfl T.m__law_draw T.F__law_draw.kp T.b__law_draw .nil pass0 (pa_cons (pv 0) (pa_cons pe_int pa_nil))))
    (pss_setT (i := 4) sc_law_bad.nd rfl (Or.inl rfl) (pe1_m1 PySem.F.slot_str_split PySem.F.type_str_split mt_split (pv 1))
    (psst_cons (PST.of (ps_set (i := 5) sc_law_bad.nd rfl (Or.inl rfl) (pe_call G__law_draw (hr.mono (by omega)) rfl T.m__law_draw T.F__law_draw.kp T.b__law_draw .nil pass0 (pa_cons (pv 0) (pa_cons (pe_callB call_len rfl T.z_len PySem.boot_len (pa_cons (pv 4) pa_nil)) pa_nil)))))
    (psst_cons (PST.of (ps_if (pt_cmpR op_lt (pv 3) pe_int (nomark _)) (pss_one (ps_ret (pe_ix ix_list (pe_lst (pa_cons (pe_op op_add_str (pv 1) pe_str) (pa_cons (pe_op op_add_str (pe_op op_add_str (pv 1) pe_str) (pv 2)) (pa_cons (pe_op op_add_str (pe_op op_add_str (pe_op op_add_str (pe_op op_add_str (pv 1) pe_str) (pe_ix ix_list (pv 4) (pe_un un_neg pe_int) (fun _ _ => rfl))) pe_str) (pv 2)) pa_nil)))) (pv 3) (fun _ _ => rfl)))) pss_nil))
    (psst_cons (CwR.pst_if (pt_cmpR op_lt (pv 3) pe_int (nomark _)) (psst_cons (CwR.pst_ret (pet_ix ix_list (pet_lst (pat_cons (CwR.PET.of (pe_join pe_str (pe_op op_cat (pe_slice sl_list (pv 4) po_none (po_some (pv 5))) (pe_slice sl_list (pv 4) (po_some (pe_op op_add (pv 5) pe_int)) po_none)))) (pat_cons (CwR.pet_replC (pv 1) (by decide +kernel)) (pat_cons (CwR.PET.of pe_str) pat_nil)))) (pe_op op_sub (pv 3) pe_int) (fun _ _ => rfl)))
    CwR.psst_nil) CwR.psst_nil)
    (psst_cons (PST.of (ps_if (pt_cmpR op_eq (pv 3) pe_int (nomark _)) (pss_one (ps_ret (pe_join pe_str (pe_op op_cat (pe_op op_cat (pe_slice sl_list (pv 4) po_none (po_some (pv 5))) (pe_lst (pa_cons (pe_op op_add_str (pe_ix ix_list (pv 4) (pv 5) (fun _ _ => rfl)) pe_str) pa_nil))) (pe_slice sl_list (pv 4) (po_some (pe_op op_add (pv 5) pe_int)) po_none))))) pss_nil))
    (psst_cons (PST.of (ps_ret (pe_ix ix_list (pe_lst (pa_cons (pe_upper (pv 1)) (pa_cons (pe_join pe_str (pe_op op_cat (pe_lst (pa_cons pe_str pa_nil)) (pe_slice sl_list (pv 4) (po_some pe_int) po_none))) pa_nil))) (pe_op op_sub (pv 3) pe_int) (fun _ _ => rfl))))
    CwR.psst_nil))))))), ?_⟩
  have sl : sp1.length = 1 := by decide +kernel
  refine ⟨_, rfl, st, sc, 9, rfl, by decide, by decide, ho, fun r H1 r0 r9 k1 o1 _ => ?_⟩
  refine ⟨_, rfl, ⟨_, rfl⟩, l, sp1, rfl, rfl, by decide +kernel, of5000 (by omega), fun lw hlw => ?_⟩
  have w2 := split_two h32
  have wg := PyProof.Rows.split_weight l sp1 (by decide +kernel)
  obtain ⟨_, hn, hzs⟩ := split_sizes (rfl : Txt.split l sp1 = _) (Nat.le_refl l.length)
  generalize Txt.split l sp1 = ws at *
  have wl : (ws.map V.str).length = ws.length := List.length_map _
  have wge : wgt ws ≤ l.length + 1 := wg
  have o2 := o1.new (o := .lst (ws.map V.str)) hlw
  have n2 := (o1.ne hlw).1
  have k2 := k1.trans (Keep.new (st := st) (o := .lst (ws.map V.str)) hlw)
  have e2 : upd H1 lw (.lst (ws.map V.str)) lw = some (.lst (ws.map V.str)) := upd_same
  dsimp only
  generalize upd H1 lw (.lst (ws.map V.str)) = H2 at o2 k2 e2
  refine ⟨_, rfl, _, rfl, .ref lw, _, rfl, .inl ⟨_, SqL.of e2, rfl⟩, st, sc, _, rfl, by omega, by omega, o2, fun r5 H3 g0 g1 k3' o3 _ => ?_⟩
  have k3 := k2.trans k3'
  have e3 := k3' _ _ n2 e2
  obtain ⟨j, z, hz, rfl, hat⟩ := pick_at g0 g1
  have jl : j < ws.length := (List.getElem?_eq_some_iff.mp hz).1
  have zl := hzs z (List.mem_of_getElem? hz)
  clear k3' e2 o2 o1 g0 g1
  have fin : ∀ (x : Str) H', Same H3 H' → x.length ≤ 4 * l.length + 20 → Q (.str x) H' := fun x H' s h => q x H' (k3.trans (K41.Keep.of_same s)) (stGo o3 s) h
  have pickE : ∀ {L : List Str} {i : Int} {p : Addr} {H' : Hp}, Same H3 H' → H' p = none → 0 ≤ i → i < (((L.map V.str).length : Nat) : Int) → (∀ x ∈ L, x.length ≤ 4 * l.length + 20) → rIxL K (.ref p) (.int i) (upd H' p (.lst (L.map V.str))) Q := fun {L i p H'} s hp h0 h1 hL => by
    obtain ⟨j, z, hz, rfl, hat⟩ := pick_at h0 h1
    exact ⟨p, _, _, _, rfl, rfl, SqL.of upd_same, hat, fin z _ (s.trans (Same.new hp _)) (hL z (List.mem_of_getElem? hz))⟩
  refine ⟨_, rfl, _, _, rfl, rfl, _, rfl, ?_⟩
  by_cases r3 : r < 3
  · refine if_true_of (decide_eq_true r3) ?_
    obtain ⟨u, hu, hat2⟩ := atI_neg2 w2
    have ul := hzs u hu
    have lA : (l ++ sp1).length = l.length + 1 := by rw [PySem.Str.length_append, sl]
    have lB : (l ++ sp1 ++ nm).length = l.length + 1 + nm.length := by rw [PySem.Str.length_append, lA]
    have lC : (l ++ sp1 ++ u).length = l.length + 1 + u.length := by rw [PySem.Str.length_append, lA]
    have lD : (l ++ sp1 ++ u ++ sp1).length = l.length + 1 + u.length + 1 := by rw [PySem.Str.length_append, lC, sl]
    have lE : (l ++ sp1 ++ u ++ sp1 ++ nm).length = l.length + 1 + u.length + 1 + nm.length := by rw [PySem.Str.length_append, lD]
    refine ⟨_, rfl, l, sp1, rfl, rfl, of5000 (by omega), _, rfl, l, sp1, rfl, rfl, of5000 (by omega), _, rfl, l ++ sp1, nm, rfl, rfl, of5000 (by omega), _, rfl, l, sp1, rfl, rfl, of5000 (by omega), _, rfl, 2, rfl, lw, _, -2, .str u, rfl, rfl, SqL.of e3, hat2, l ++ sp1, u, rfl, rfl, of5000 (by omega), l ++ sp1 ++ u, sp1, rfl, rfl, of5000 (by omega), _, rfl, l ++ sp1 ++ u ++ sp1, nm, rfl, rfl, of5000 (by omega), by show 3 ≤ sizeLine; decide, fun p hp => ?_⟩
    refine ⟨_, rfl, ?_⟩
    refine pickE (L := [l ++ sp1, l ++ sp1 ++ nm, l ++ sp1 ++ u ++ sp1 ++ nm]) (Same.refl _) hp r0 (by show r < 3; exact r3) (fun x hx => ?_)
    simp only [List.mem_cons, List.not_mem_nil, or_false] at hx
    rcases hx with rfl | rfl | rfl <;> omega
  refine if_false_of (decide_eq_false r3) ?_
  refine ⟨_, rfl, _, _, rfl, rfl, _, rfl, ?_⟩
  by_cases r6 : r < 6
  · refine if_true_of (decide_eq_true r6) ?_
    refine ⟨⟨_, rfl⟩, _, rfl, _, rfl, ((j : Nat) : Int), rfl, lw, _, rfl, SqL.of e3, fun p1 hp1 => ?_⟩
    rw [cut_to ws (Nat.le_of_lt jl)]
    have s4 := Same.new hp1 (.lst ((ws.take j).map V.str))
    have e4 : upd H3 p1 (.lst ((ws.take j).map V.str)) p1 = some (.lst ((ws.take j).map V.str)) := upd_same
    dsimp only
    generalize upd H3 p1 (.lst ((ws.take j).map V.str)) = H4 at s4 e4
    refine ⟨_, rfl, _, rfl, _, _, rfl, rfl, ((j : Nat) : Int) + 1, rfl, lw, _, rfl, SqL.of (s4 _ _ e3), fun p2 hp2 => ?_⟩
    rw [cut_behind]
    have s5 := Same.new hp2 (.lst ((ws.drop (j + 1)).map V.str))
    have e5 : upd H4 p2 (.lst ((ws.drop (j + 1)).map V.str)) p2 = some (.lst ((ws.drop (j + 1)).map V.str)) := upd_same
    dsimp only
    generalize upd H4 p2 (.lst ((ws.drop (j + 1)).map V.str)) = H5 at s5 e5
    refine ⟨p1, p2, _, _, rfl, rfl, s5 _ _ e4, e5, of5000 (by rw [List.length_map, List.length_map, List.length_take, List.length_drop]; omega), fun p3 hp3 => ?_⟩
    rw [← List.map_append]
    have s6 := Same.new hp3 (.lst ((ws.take j ++ ws.drop (j + 1)).map V.str))
    have e6 : upd H5 p3 (.lst ((ws.take j ++ ws.drop (j + 1)).map V.str)) p3 = some (.lst ((ws.take j ++ ws.drop (j + 1)).map V.str)) := upd_same
    dsimp only
    generalize upd H5 p3 (.lst ((ws.take j ++ ws.drop (j + 1)).map V.str)) = H6 at s6 e6
    obtain ⟨b1, b2⟩ := wgt_join (Nat.le_trans (wgt_cut ws j) wge) (by omega)
    have rp := _root_.TK.replace_len l (" " : Str) ("  " : Str)
    have l2 : ("  " : Str).length = 2 := by decide +kernel
    rw [l2] at rp
    refine ⟨sp1, p3, _, rfl, rfl, .inl (SqL.of e6), b1, _, rfl, l, rfl, Nat.le_trans (by rw [l2]; omega : _ ≤ 5000) (by decide), by show 3 ≤ sizeLine; decide, fun p hp => ?_⟩
    refine ⟨_, rfl, _, _, rfl, rfl, ?_⟩
    refine pickE (L := [Txt.join sp1 (ws.take j ++ ws.drop (j + 1)), Txt.replace l (" " : Str) ("  " : Str), Str.empty]) (s4.trans (s5.trans s6)) hp (by omega) (by show r - 3 < 3; omega) (fun x hx => ?_)
    have l0 : Str.empty.length = 0 := by decide +kernel
    simp only [List.mem_cons, List.not_mem_nil, or_false] at hx
    rcases hx with rfl | rfl | rfl <;> omega
  refine if_false_of (decide_eq_false r6) ?_
  refine ⟨_, rfl, rfl, _, rfl, ?_⟩
  by_cases r66 : r = 6
  · refine if_true_of (decide_eq_true (congrArg V.int r66)) ?_
    have l8 : ("abcdefgh" : Str).length = 8 := by decide +kernel
    refine ⟨⟨_, rfl⟩, _, rfl, _, rfl, ((j : Nat) : Int), rfl, lw, _, rfl, SqL.of e3, fun p1 hp1 => ?_⟩
    rw [cut_to ws (Nat.le_of_lt jl)]
    have s4 := Same.new hp1 (.lst ((ws.take j).map V.str))
    have e4 : upd H3 p1 (.lst ((ws.take j).map V.str)) p1 = some (.lst ((ws.take j).map V.str)) := upd_same
    dsimp only
    generalize upd H3 p1 (.lst ((ws.take j).map V.str)) = H4 at s4 e4
    refine ⟨_, rfl, _, rfl, lw, _, _, _, rfl, rfl, SqL.of (s4 _ _ e3), hat, z, "abcdefgh", rfl, rfl, of5000 (by omega), by show 1 ≤ sizeLine; decide, fun p2 hp2 => ?_⟩
    have s5 := Same.new hp2 (.lst ([V.str (z ++ "abcdefgh")]))
    have e5 : upd H4 p2 (.lst ([V.str (z ++ "abcdefgh")])) p2 = some (.lst ([V.str (z ++ "abcdefgh")])) := upd_same
    dsimp only
    generalize upd H4 p2 (.lst ([V.str (z ++ "abcdefgh")])) = H5 at s5 e5
    refine ⟨p1, p2, _, _, rfl, rfl, s5 _ _ e4, e5, of5000 (by rw [List.length_map, List.length_take]; show _ + 1 ≤ 5000; omega), fun p3 hp3 => ?_⟩
    rw [show (ws.take j).map V.str ++ [V.str (z ++ "abcdefgh")] = (ws.take j ++ [z ++ "abcdefgh"]).map V.str by rw [List.map_append]; rfl]
    have s6 := Same.new hp3 (.lst ((ws.take j ++ [z ++ "abcdefgh"]).map V.str))
    have e6 : upd H5 p3 (.lst ((ws.take j ++ [z ++ "abcdefgh"]).map V.str)) p3 = some (.lst ((ws.take j ++ [z ++ "abcdefgh"]).map V.str)) := upd_same
    dsimp only
    generalize upd H5 p3 (.lst ((ws.take j ++ [z ++ "abcdefgh"]).map V.str)) = H6 at s6 e6
    refine ⟨_, rfl, _, rfl, _, _, rfl, rfl, ((j : Nat) : Int) + 1, rfl, lw, _, rfl, SqL.of (s6 _ _ (s5 _ _ (s4 _ _ e3))), fun p4 hp4 => ?_⟩
    rw [cut_behind]
    have s7 := Same.new hp4 (.lst ((ws.drop (j + 1)).map V.str))
    have e7 : upd H6 p4 (.lst ((ws.drop (j + 1)).map V.str)) p4 = some (.lst ((ws.drop (j + 1)).map V.str)) := upd_same
    dsimp only
    generalize upd H6 p4 (.lst ((ws.drop (j + 1)).map V.str)) = H7 at s7 e7
    refine ⟨p3, p4, _, _, rfl, rfl, s7 _ _ e6, e7, of5000 (by rw [List.length_map, List.length_map, List.length_append, List.length_take, List.length_drop]; show _ + 1 + _ ≤ 5000; omega), fun p5 hp5 => ?_⟩
    rw [← List.map_append]
    have wq : wgt (ws.take j ++ [z ++ "abcdefgh"] ++ ws.drop (j + 1)) ≤ 2 * l.length + 12 := by
      have := wgt_cut ws j
      rw [wgt_append] at this
      rw [wgt_append, wgt_append, wgt_one, PySem.Str.length_append, l8]
      omega
    obtain ⟨b1, b2⟩ := wgt_join wq (by omega)
    exact ⟨sp1, p5, _, rfl, rfl, .inl (SqL.of upd_same), b1, fin _ _ (s4.trans (s5.trans (s6.trans (s7.trans (Same.new hp5 _))))) (by omega)⟩
  refine if_false_of (decide_eq_false (fun x => r66 (V.int.inj x))) ?_
  have lk : ("look" : Str).length = 4 := by decide +kernel
  have up := PyProof.Rows.len_upper l
  refine ⟨_, rfl, ⟨_, rfl⟩, l, rfl, rfl, Nat.le_trans hl (by decide), ⟨_, rfl⟩, by show 1 ≤ sizeLine; decide, fun p1 hp1 => ?_⟩
  have s4 := Same.new hp1 (.lst ([V.str "look"]))
  have e4 : upd H3 p1 (.lst ([V.str "look"])) p1 = some (.lst ([V.str "look"])) := upd_same
  dsimp only
  generalize upd H3 p1 (.lst ([V.str "look"])) = H4 at s4 e4
  refine ⟨_, rfl, 1, rfl, lw, _, rfl, SqL.of (s4 _ _ e3), fun p2 hp2 => ?_⟩
  rw [show cutV (ws.map V.str) (some 1) none = (ws.drop 1).map V.str by rw [List.map_drop]; exact cut_from (ws.map V.str) 1]
  have s5 := Same.new hp2 (.lst ((ws.drop 1).map V.str))
  have e5 : upd H4 p2 (.lst ((ws.drop 1).map V.str)) p2 = some (.lst ((ws.drop 1).map V.str)) := upd_same
  dsimp only
  generalize upd H4 p2 (.lst ((ws.drop 1).map V.str)) = H5 at s5 e5
  refine ⟨p1, p2, _, _, rfl, rfl, s5 _ _ e4, e5, of5000 (by rw [List.length_map, List.length_drop]; show 1 + _ ≤ 5000; omega), fun p3 hp3 => ?_⟩
  rw [show [V.str "look"] ++ (ws.drop 1).map V.str = ([("look" : Str)] ++ ws.drop 1).map V.str by rw [List.map_append]; rfl]
  have s6 := Same.new hp3 (.lst (([("look" : Str)] ++ ws.drop 1).map V.str))
  have e6 : upd H5 p3 (.lst (([("look" : Str)] ++ ws.drop 1).map V.str)) p3 = some (.lst (([("look" : Str)] ++ ws.drop 1).map V.str)) := upd_same
  dsimp only
  generalize upd H5 p3 (.lst (([("look" : Str)] ++ ws.drop 1).map V.str)) = H6 at s6 e6
  have wq : wgt ([("look" : Str)] ++ ws.drop 1) ≤ 2 * l.length + 12 := by
    have := wgt_take ws 1
    rw [wgt_append, wgt_one, lk]
    omega
  obtain ⟨b1, b2⟩ := wgt_join wq (by omega)
  refine ⟨sp1, p3, _, rfl, rfl, .inl (SqL.of e6), b1, by show 2 ≤ sizeLine; decide, fun p hp => ?_⟩
  refine ⟨_, rfl, _, _, rfl, rfl, ?_⟩
  refine pickE (L := [Txt.upper l, Txt.join sp1 ([("look" : Str)] ++ ws.drop 1)]) (s4.trans (s5.trans s6)) hp (by omega) (by show r - 7 < 2; omega) (fun x hx => ?_)
  simp only [List.mem_cons, List.not_mem_nil, or_false] at hx
  rcases hx with rfl | rfl <;> omega
end
end K41
namespace K41
open PySem PySem.Spec PyProof.Rows L2 Td TL
/-- right lines' texts -/
def spParse (K : PySem.W.Frag) (CI : Addr) : Sp := fun vs H Q E => ∃ t : Str, vs = [.str t] ∧ t.length ≤ 100000 ∧ (∀ z ∈ linesF t, z.length ≤ 2900) ∧
  (∀ ds, parseF t = .ok ds → ∀ (l : Addr) (cs : List V) H', Same H H' → H l = none → H' l = some (.lst cs) → TnAll K H' cs (ds.map De.data) → Q (.ref l) H') ∧ (∀ n, parseF t = .error n → Rz CI "line" (.int (n : Nat)) H E)
def spParsed (K : PySem.W.Frag) : Sp := fun vs H Q _ => ∃ t : Str, vs = [.str t] ∧ t.length ≤ 100000 ∧ (∀ z ∈ linesF t, z.length ≤ 2900) ∧
  (∀ ds, parseF t = .ok ds → ∀ (u l : Addr) (cs : List V) H', Same H H' → H l = none → H' l = some (.lst cs) → TnAll K H' cs (ds.map De.data) → SqT K H' u [.str "deeds", .ref l] → Q (.ref u) H') ∧
  (∀ n, parseF t = .error n → ∀ (u : Addr) H', Same H H' → SqT K H' u [.str "text", .int (n : Nat)] → Q (.ref u) H')
theorem lines_few {t : Str} {n : Nat} (h : t.length ≤ n) : (linesF t).length ≤ n := by
  have w := PyProof.Rows.split_weight t nl1 (by decide +kernel)
  unfold linesF
  rw [List.length_dropLast]
  omega
theorem parse_none {t : Str} (h : tl t = []) : parseF t = .ok [] := by unfold parseF; rw [if_pos h]
theorem parse_zero {t : Str} (h : tl t ≠ []) (h2 : (tl t).getLast? ≠ some 10) : parseF t = .error 0 := by unfold parseF; rw [if_neg h, if_neg h2]
theorem parse_go {t : Str} (h : tl t ≠ []) (h2 : (tl t).getLast? = some 10) : parseF t = goF 0 (linesF t) [] := by unfold parseF; rw [if_neg h, if_pos h2]
section
variable {P : Program} {w : World} {K : PySem.W.Frag} {mg : Str → Option Value} {base : Heap}
theorem ok_parse (T : Tops w K mg) (G_InvalidText_init : FnOk P w K mg base CX0 1 T.a_InvalidText_init T.d_InvalidText_init ["self", "line"] (spExc K T.c_InvalidText "line"))
    (G_lines_of : FnOk P w K mg base (L2.CX P w) 3 T.a_lines_of T.d_lines_of ["text"] (spLines K T.c_InvalidText)) (G_deed_of : FnOk P w K mg base CX0 2 T.a_deed_of T.d_deed_of ["items"] (spDeedOf K)) :
    FnOk P w K mg base (L2.CX P w) 5 T.a_parse_deeds T.d_parse_deeds ["text"] (spParse K T.c_InvalidText) := by
  refine T.F_parse_deeds.okX sc_parse_deeds (fun vs H Q E h => ?_) (fun cdv A outer s H vs Q E hr h => ?_)
  · obtain ⟨t, rfl, _⟩ := h; rfl
  obtain ⟨t, rfl, ht, hz, q1, q2⟩ := h
  have hn := lines_few ht
  refine ⟨_, (pss_cons (ps_set (i := 1) sc_parse_deeds.nd rfl (Or.inl rfl) (pe_lst pa_nil))
    (pss_cons (ps_if (pt_cmpR op_ne (pv 0) pe_str (nomark _)) (pss_one (ps_for (passes_of rfl) rfl (pi_enum rfl T.z_enumerate (pa_cons (pe_call G_lines_of (hr.mono (by omega)) rfl T.m_lines_of T.F_lines_of.kp T.b_lines_of .nil (passes_call (takes_of rfl rfl rfl rfl) (fun _ _ _ _ h => h)) (pa_cons (pv 0) pa_nil)) pa_nil)) (pg_tup rfl (pgs_cons (pg_name (i := 2) sc_parse_deeds.nd rfl (Or.inl rfl)) (pgs_cons (pg_name (i := 3) sc_parse_deeds.nd rfl (Or.inl rfl)) pgs_nil))) (pss_cons (ps_set (i := 4) sc_parse_deeds.nd rfl (Or.inl rfl) (pe_call G_deed_of (hr.mono (by omega)) rfl T.m_deed_of T.F_deed_of.kp T.b_deed_of .nil pass0 (pa_cons (pe_split (pv 3) pe_str) pa_nil)))
    (pss_cons (ps_if (pt_cmpR op_isN (pv 4) pe_non (nomark _)) (pss_one (ps_raise rfl (takes_of rfl rfl rfl rfl) (pmk_oex T.x_InvalidText T.xi_InvalidText T.xt_InvalidText G_InvalidText_init (hr.mono (by omega)) T.b_InvalidText_init .nil pass0 rfl T.m_InvalidText (pa_cons (pe_op op_add (pv 2) pe_int) pa_nil)))) pss_nil)
    (pss_one (ps_expr (pe_bm PySem.F.plainAttrs_list PySem.F.slot_list_append PySem.F.type_list_append mt_append (pv 1) (pa_cons (pv 4) pa_nil)))))))) pss_nil)
    (pss_one (ps_ret (pv 1))))), ?_⟩
  refine ⟨by show 0 ≤ sizeLine; decide, fun p hp => ?_⟩
  have s1 := Same.new hp (.lst [])
  have e1 : upd H p (.lst []) p = some (.lst []) := upd_same
  dsimp only
  generalize upd H p (.lst []) = H1 at s1 e1
  refine ⟨_, rfl, rfl, _, rfl, ?_⟩
  by_cases h : tl t = []
  · have e0 : t = "" := ext_tl (h.trans (by decide +kernel))
    refine if_false_of (by rw [decide_eq_true (congrArg V.str e0)]; rfl) ?_
    exact ⟨_, rfl, q1 [] (parse_none h) p [] _ s1 hp e1 .nil⟩
  refine if_true_of (by rw [decide_eq_false (fun x => h (by rw [V.str.inj x]; decide +kernel))]; rfl) ?_
  refine ⟨_, rfl, t, rfl, ht, fun h10 l H2 s2 f2 e2 => ?_, fun h10 => (q2 0 (parse_zero h h10)).later s1⟩
  have pg := parse_go h h10
  have npl : p ≠ l := ne_of_none e1 f2
  refine ⟨l, _, rfl, SqL.of e2, for_enumL (K := K) (l := l) (zs := (linesF t).map V.str) (fun i σ G => ∃ (v2 v3 v4 : Option V) (cs : List V) (acc : List De), σ = [some (.str t), some (.ref p), v2, v3, v4] ∧ Same H G ∧ G l = some (.lst ((linesF t).map V.str)) ∧
      G p = some (.lst cs) ∧ TnAll K G cs (acc.map De.data) ∧ acc.length = i ∧ goF i ((linesF t).drop i) acc = parseF t)
    ⟨none, none, none, [], [], rfl, s1.trans s2, e2, s2 _ _ e1, .nil, rfl, by rw [List.drop_zero, pg]⟩ (fun i σ G _ ⟨_, _, _, _, _, _, _, z, _⟩ => SqL.of z) ?_ ?_⟩
  · rintro i x σ G tt hx ⟨v2, v3, v4, cs, acc, rfl, sG, el, ep, hT, ha, hgo⟩ htt
    rw [List.getElem?_map] at hx
    obtain ⟨ln, hln, rfl⟩ := Option.map_eq_some_iff.mp hx
    have hzl := hz ln (List.mem_of_getElem? hln)
    have il : i < (linesF t).length := (List.getElem?_eq_some_iff.mp hln).1
    have hdr : (linesF t).drop i = ln :: (linesF t).drop (i + 1) := by
      have := (List.getElem?_eq_some_iff.mp hln).2
      rw [← this]
      exact List.drop_eq_getElem_cons il
    rw [hdr] at hgo
    refine ⟨tt, _, rfl, SqT.of upd_same, rfl, _, _, rfl, _, _, rfl, rfl, ?_⟩
    have s3 := Same.new htt (.tup [.int (i : Nat), .str ln])
    generalize upd G tt (.tup [.int (i : Nat), .str ln]) = G2 at s3
    refine ⟨_, rfl, ⟨_, rfl⟩, ln, sp1, rfl, rfl, by decide +kernel, Nat.le_trans (Nat.add_le_add_right hzl 2) (by decide), fun w1 hw1 => ?_⟩
    obtain ⟨hne, hwl, hws⟩ := split_sizes (rfl : Txt.split ln sp1 = _) hzl
    have s4 := s3.trans (Same.new hw1 (.lst ((Txt.split ln sp1).map V.str)))
    refine ⟨w1, _, rfl, upd_same, hne, by omega, fun z hz => Nat.le_trans (hws z hz) (by decide), fun e G3 s5 => ?_, fun d e v G3 s5 hd => ?_⟩
    · have er : parseF t = .error (i + 1) := by
        rw [← hgo]
        unfold goF
        rw [e]
      refine ⟨_, rfl, rfl, _, rfl, if_true_of rfl ?_⟩
      exact ⟨_, rfl, _, _, rfl, rfl, made_one ((q2 (i + 1) er).later (sG.trans (s4.trans s5)))⟩
    · have er : goF (i + 1) ((linesF t).drop (i + 1)) (acc ++ [d]) = parseF t := by
        rw [← hgo]
        conv => rhs; unfold goF
        rw [e]
      obtain ⟨a, rfl, hA⟩ := De.at_ hd
      have s6 := s4.trans s5
      have ep3 := s6 _ _ ep
      refine ⟨_, rfl, rfl, _, rfl, if_false_of rfl ?_⟩
      refine ⟨_, rfl, .inl ⟨rfl, _, SqL.of ep3⟩, _, rfl, p, cs, _, rfl, rfl, ep3, Nat.lt_of_le_of_lt (by rw [hT.length, List.length_map, ha]; omega : cs.length ≤ 100000) (by decide), ?_⟩
      have tk : TK G3 (upd G3 p (.lst (cs ++ [.ref a]))) := TK.upd (by rw [ep3]; trivial)
      refine ⟨_, _, _, _, acc ++ [d], rfl, K41.Same.own (sG.trans s6) hp, by rw [upd_ne npl.symm]; exact s6 _ _ el, upd_same, ?_, by simp [ha], er⟩
      rw [List.map_append]
      exact TnAll.append (TnAll.keep tk (TnAll.keep (TK.of_same s6) hT)) (TnAll.one (Tn.keep tk hd))
  · rintro σ G ⟨v2, v3, v4, cs, acc, rfl, sG, el, ep, hT, ha, hgo⟩
    rw [List.drop_of_length_le (by rw [List.length_map]; exact Nat.le_refl _)] at hgo
    exact ⟨_, rfl, q1 acc hgo.symm p cs G sG hp ep hT⟩
theorem ok_parsed (T : Tops w K mg) (G_parse_deeds : FnOk P w K mg base (L2.CX P w) 5 T.a_parse_deeds T.d_parse_deeds ["text"] (spParse K T.c_InvalidText)) :
    FnOk P w K mg base CX0 6 T.a__law_parsed T.d__law_parsed ["_law_text"] (spParsed K) := by
  refine T.F__law_parsed.ok sc_law_parsed (fun vs H Q E h => ?_) (fun cdv A outer s H vs Q E hr h => ?_)
  · obtain ⟨t, rfl, _⟩ := h; rfl
  obtain ⟨t, rfl, ht, hz, q1, q2⟩ := h
  have hn := lines_few ht
  refine ⟨_, (pss_cons (ps_set (i := 1) sc_law_parsed.nd rfl (Or.inl rfl) (pe_tup (pa_cons pe_str pa_nil)))
    (pss_cons (ps_try_asL rfl rfl sc_law_parsed.nd takes0 (fun W pn xe tk _ => (pss_one (ps_set (i := 1) sc_law_parsed.nd rfl (Or.inl rfl) (pe_tup (pa_cons pe_str (pa_cons (pe_callS G_parse_deeds (hr.mono (by omega)) rfl T.m_parse_deeds T.F_parse_deeds.kp T.b_parse_deeds (fun σ => passAt tk σ) (pa_cons (pv 0) pa_nil)) pa_nil)))))) (Clauses.more (i := 2) rfl rfl ⟨rfl, by decide, .inl T.m_InvalidText⟩ (fun a oe cls d pn hz hf => (pss_one (ps_set (i := 1) sc_law_parsed.nd rfl (Or.inl rfl) (pe_tup (pa_cons pe_str (pa_cons (pe_xf ⟨T.xa_InvalidText, T.xg_InvalidText, T.x_InvalidText.exC, T.xh_InvalidText⟩ T.n_InvalidText_line hz hf (pv 2)) pa_nil)))))) Clauses.none))
    (pss_one (ps_ret (pv 1))))), ?_⟩
  refine ⟨by show 1 ≤ sizeLine; decide, fun t0 ht0 => ?_⟩
  have s0 := Same.new ht0 (.tup [V.str "none"])
  try dsimp only
  generalize upd H t0 (.tup [V.str "none"]) = H1 at s0
  refine ⟨_, rfl, t, rfl, ht, hz, fun ds e l cs H2 s2 f2 e2 hT => ?_, fun n e dd H2 s2 hd he => ?_⟩
  · refine ⟨by show 2 ≤ sizeLine; decide, fun u hu => ⟨_, rfl, ?_⟩⟩
    have s3 := Same.new hu (.tup [V.str "deeds", .ref l])
    have fl : H l = none := by
      cases z : H l with
      | none => rfl
      | some o => rw [s0 _ _ z] at f2; cases f2
    exact q1 ds e u l cs _ (s0.trans (s2.trans s3)) fl (s3 _ _ e2) (TnAll.keep (TK.of_same s3) hT) (SqT.of upd_same)
  · refine ⟨true, T.xe_InvalidText, fun _ ea hea => ?_, fun z => nomatch z⟩
    refine ⟨_, rfl, rfl, rfl, dd, _, _, rfl, he, rfl, by show 2 ≤ sizeLine; decide, fun u hu => ⟨_, rfl, ?_⟩⟩
    have s3 := Same.new hu (.tup [V.str "text", .int (n : Nat)])
    exact q2 n e u _ (s0.trans (s2.trans s3)) (SqT.of upd_same)
end
end K41
namespace K41
open PySem PySem.Spec PyProof.Rows L2 Td TL
theorem shape_of {d : PyData} (h : d.canLay0 = true) (k : d.depth ≤ 60) : SeqAt.shaped d = true := by
  unfold SeqAt.shaped
  rw [h, Bool.true_and]
  exact decide_eq_true (by omega)
theorem ne_same {K : PySem.W.Frag} {H : Hp} {x y : V} {d : PyData} {Q : VK} (h1 : Dp K H x d) (h2 : Dp K H y d) (hc : d.canLay0 = true) (hd : d.depth ≤ 60) (q : Q (.bl false) H) : rNeD K x y H Q :=
  ⟨d, d, h1, h2, shape_of hc hd, shape_of hc hd, by rw [SeqAt.eqv_refl d hc]; exact q⟩
theorem eq_same {K : PySem.W.Frag} {H : Hp} {x y : V} {d : PyData} {Q : VK} (h1 : Dp K H x d) (h2 : Dp K H y d) (hc : d.canLay0 = true) (hd : d.depth ≤ 60) (q : Q (.bl true) H) : rEqD K x y H Q :=
  ⟨d, d, h1, h2, shape_of hc hd, shape_of hc hd, by rw [SeqAt.eqv_refl d hc]; exact q⟩
theorem lays_all : ∀ {ds : List PyData}, (∀ d ∈ ds, d.canLay0 = true ∧ d.depth ≤ 40) → PyData.canLayAll0 ds = true ∧ PyData.depthAll ds ≤ 40
  | [], _ => ⟨rfl, by simp [PyData.depthAll]⟩
  | d :: ds, h => by
    obtain ⟨a, b⟩ := lays_all fun x hx => h x (List.mem_cons_of_mem _ hx)
    obtain ⟨h1, h2⟩ := h d List.mem_cons_self
    refine ⟨?_, ?_⟩
    · show (d.canLay0 && PyData.canLayAll0 ds) = true
      rw [a, h1]; rfl
    · simp only [PyData.depthAll]; omega
theorem spl_le {m : Nat} : ∀ (l acc r : List Nat), acc.length + l.length ≤ m → (∀ x ∈ spl [10] 0 [] r, x.length ≤ m) → ∀ x ∈ spl [10] 0 acc (l ++ 10 :: r), x.length ≤ m
  | [], acc, r, h, hr, x, hx => by
    rw [List.nil_append, spl_hit (by rfl)] at hx
    rcases List.mem_cons.mp hx with rfl | hx
    · simpa using h
    · exact hr x hx
  | c :: l, acc, r, h, hr, x, hx => by
    rw [List.length_cons] at h
    by_cases e : c = 10
    · subst e
      rw [List.cons_append, spl_hit (by rfl)] at hx
      rcases List.mem_cons.mp hx with rfl | hx
      · omega
      · exact spl_le l [] r (by simp; omega) hr x hx
    · rw [List.cons_append, spl_miss (pre_of_head [] _ e)] at hx
      exact spl_le l (acc ++ [c]) r (by simp; omega) hr x hx
theorem pcs_text {m : Nat} : ∀ {ls : List Str}, (∀ z ∈ ls, z.length ≤ m) → ∀ x ∈ spl [10] 0 [] (ls.flatMap fun l => tl l ++ [10]), x.length ≤ m
  | [], _, x, hx => by
    rw [List.flatMap_nil, spl_nil] at hx
    rw [List.mem_singleton.mp hx]
    exact Nat.zero_le _
  | l :: ls, h, x, hx => by
    rw [List.flatMap_cons, List.append_assoc] at hx
    exact spl_le (tl l) [] _ (by have := h l List.mem_cons_self; rw [len_tl] at this; simpa using this) (pcs_text fun z hz => h z (List.mem_cons_of_mem _ hz)) x hx
theorem pcs_less {m c : Nat} : ∀ (u acc : List Nat), (∀ x ∈ spl [10] 0 acc (u ++ [c]), x.length ≤ m) → ∀ x ∈ spl [10] 0 acc u, x.length ≤ m
  | [], acc, h, x, hx => by
    rw [spl_nil] at hx
    rw [List.mem_singleton.mp hx]
    by_cases e : c = 10
    · subst e
      exact h acc (by rw [List.nil_append, spl_hit (by rfl)]; exact List.mem_cons_self)
    · have := h (acc ++ [c]) (by rw [List.nil_append, spl_miss (pre_of_head [] _ e), spl_nil]; exact List.mem_cons_self)
      rw [List.length_append] at this
      omega
  | d :: u, acc, h, x, hx => by
    by_cases e : d = 10
    · subst e
      rw [List.cons_append, spl_hit (by rfl)] at h
      rw [spl_hit (by rfl)] at hx
      rcases List.mem_cons.mp hx with rfl | hx
      · exact h _ List.mem_cons_self
      · exact pcs_less u [] (fun y hy => h y (List.mem_cons_of_mem _ hy)) x hx
    · rw [List.cons_append, spl_miss (pre_of_head [] _ e)] at h
      rw [spl_miss (pre_of_head [] _ e)] at hx
      exact pcs_less u (acc ++ [d]) h x hx
theorem lines_le {t : Str} {m : Nat} (h : ∀ x ∈ spl [10] 0 [] (tl t), x.length ≤ m) : ∀ z ∈ linesF t, z.length ≤ m := fun z hz => by
  have h1 : z ∈ Txt.split t nl1 := by
    unfold linesF at hz
    rw [List.dropLast_eq_take] at hz
    exact List.mem_of_mem_take hz
  have h2 : tl z ∈ (Txt.split t nl1).map tl := List.mem_map_of_mem h1
  rw [split_nl] at h2
  rw [len_tl]
  exact h _ h2
/-- a text made of short lines, perhaps without its last sign -/
structure Txs (t : Str) : Prop where
  len : t.length ≤ 100000
  pcs : ∀ x ∈ spl [10] 0 [] (tl t), x.length ≤ 2900
theorem text_len {ls : List Str} {m : Nat} (h : ∀ z ∈ ls, z.length ≤ m) : (textOf ls).length ≤ ls.length * (m + 1) := by
  have j := join_le Str.empty (ls.map fun l => l ++ nl1)
  have s := sum_le (ls := ls.map fun z => z ++ nl1) (n := m + 1) fun x hx => by
    obtain ⟨z, hz', rfl⟩ := List.mem_map.mp hx
    rw [Str.length_append]
    exact Nat.add_le_add (h z hz') (by decide +kernel : nl1.length ≤ 1)
  have h5 : Str.empty.length = 0 := by decide +kernel
  rw [h5, Nat.mul_zero] at j
  rw [List.length_map] at s
  unfold textOf
  omega
theorem Txs.of {ls : List Str} (h : ∀ z ∈ ls, z.length ≤ 2900) (hl : ls.length ≤ 20) : Txs (textOf ls) := by
  refine ⟨?_, ?_⟩
  · have := text_len h
    have : ls.length * 2901 ≤ 20 * 2901 := Nat.mul_le_mul_right _ hl
    omega
  · rw [tl_text]
    exact pcs_text h
theorem Txs.short {t : Str} (h : Txs t) : Txs (cutS t none (some (-1))) := by
  refine ⟨Nat.le_trans (cutS_length t none (some (-1))) h.len, ?_⟩
  rw [cut_last]
  by_cases e : tl t = []
  · have := h.pcs
    rw [e] at this ⊢
    exact this
  · obtain ⟨M, c, e2⟩ : ∃ M c, tl t = M ++ [c] := ⟨_, _, (List.dropLast_concat_getLast e).symm⟩
    have p := h.pcs
    rw [e2] at p ⊢
    rw [List.dropLast_concat]
    exact pcs_less M [] p
theorem Txs.lines {t : Str} (h : Txs t) : ∀ z ∈ linesF t, z.length ≤ 2900 := lines_le h.pcs
/-- parsing, line by line -/
theorem parse_lines {t : Str} (h : tl t = [] ∨ (tl t).getLast? = some 10) : parseF t = goF 0 (linesF t) [] := by
  by_cases e : tl t = []
  · have e2 : linesF t = [] := by
      refine map_tl_inj ?_
      unfold linesF
      rw [List.map_dropLast, split_nl, e, spl_nil]
      rfl
    rw [parse_none e, e2]
    rfl
  · exact parse_go e (h.resolve_left e)
/-! ### what is said has names only -/
def De.Nm : De → Prop
  | .rd c => isNm c = true
  | .wr s w => isNm s = true ∧ isNm w = true
  | .bt ps => ∀ p ∈ ps, isNm p.1 = true ∧ isNm p.2 = true
theorem Good_nm : ∀ {d : De}, d.Good → d.Nm
  | .rd _, h => h
  | .wr _ _, h => h
  | .bt _, h => h.2.2.1
theorem pairUp_nm : ∀ (t : List Str), t.all isNm = true → ∀ p ∈ pairUp t, isNm p.1 = true ∧ isNm p.2 = true
  | [], _, p, hp => by cases hp
  | [_], _, p, hp => by cases hp
  | a :: b :: r, h, p, hp => by
    rw [List.all_cons, List.all_cons, Bool.and_eq_true, Bool.and_eq_true] at h
    rcases List.mem_cons.mp hp with rfl | hp
    · exact ⟨h.1, h.2.1⟩
    · exact pairUp_nm r h.2.2 p hp
theorem said_nm {ws : List Str} {d : De} (h : saidF ws = some d) : d.Nm := by
  cases ws with
  | nil => cases h
  | cons x t =>
    cases ha : t.all isNm with
    | false => rw [said_bad ha] at h; cases h
    | true =>
      by_cases c : x = "write" ∧ t.length = 2 ∨ x = "read" ∧ t.length = 1
      · have e : saidF (x :: t) = _ := if_neg (by rw [ha]; decide)
        rw [if_pos c] at e
        rw [e] at h
        match t, c, ha, h with
        | [s], _, ha, h => cases h; rw [List.all_cons, Bool.and_eq_true] at ha; exact ha.1
        | [s, w], _, ha, h => cases h; rw [List.all_cons, List.all_cons, Bool.and_eq_true, Bool.and_eq_true] at ha; exact ⟨ha.1, ha.2.1⟩
        | [], c, _, _ => exact absurd c (by simp)
        | _ :: _ :: _ :: _, c, _, _ => exact absurd c (by simp)
      · rw [said_bt c ha] at h
        split at h
        · cases h
        · split at h
          · cases h; exact pairUp_nm t ha
          · cases h
theorem str_lay {z : Str} (h : PyData.strOk z = true) : (PyData.str z).canLay0 = true ∧ (PyData.str z).depth ≤ 40 := ⟨by simp only [PyData.canLay0, h], by simp [PyData.depth]⟩
theorem tup_lay {L : List PyData} {n : Nat} (h : ∀ d ∈ L, d.canLay0 = true ∧ d.depth ≤ n) : (PyData.tuple L).canLay0 = true ∧ (PyData.tuple L).depth ≤ n + 1 := by
  have : ∀ {ds : List PyData}, (∀ d ∈ ds, d.canLay0 = true ∧ d.depth ≤ n) → PyData.canLayAll0 ds = true ∧ PyData.depthAll ds ≤ n := fun {ds} => by
    induction ds with
    | nil => intro _; exact ⟨rfl, by simp [PyData.depthAll]⟩
    | cons d ds ih =>
      intro h
      obtain ⟨a, b⟩ := ih fun x hx => h x (List.mem_cons_of_mem _ hx)
      obtain ⟨h1, h2⟩ := h d List.mem_cons_self
      refine ⟨?_, ?_⟩
      · show (d.canLay0 && PyData.canLayAll0 ds) = true
        rw [a, h1]; rfl
      · simp only [PyData.depthAll]; omega
  obtain ⟨a, b⟩ := this h
  exact ⟨by simp only [PyData.canLay0, a], by simp only [PyData.depth]; omega⟩
theorem st1 {z : Str} (h : PyData.strOk z = true) : (PyData.str z).canLay0 = true ∧ (PyData.str z).depth ≤ 1 := ⟨by simp only [PyData.canLay0, h], by simp [PyData.depth]⟩
theorem kw_ok : PyData.strOk ("read" : Str) = true ∧ PyData.strOk ("write" : Str) = true ∧ PyData.strOk ("batch" : Str) = true ∧ PyData.strOk ("deeds" : Str) = true ∧ PyData.strOk ("text" : Str) = true := by decide +kernel
theorem two_lay {x y : PyData} {n : Nat} (hx : x.canLay0 = true ∧ x.depth ≤ n) (hy : y.canLay0 = true ∧ y.depth ≤ n) : ∀ d ∈ [x, y], d.canLay0 = true ∧ d.depth ≤ n := fun d hd => by
  simp only [List.mem_cons, List.not_mem_nil, or_false] at hd
  rcases hd with rfl | rfl
  · exact hx
  · exact hy
theorem up_lay {x : PyData} {n m : Nat} (h : x.canLay0 = true ∧ x.depth ≤ n) (k : n ≤ m) : x.canLay0 = true ∧ x.depth ≤ m := ⟨h.1, Nat.le_trans h.2 k⟩
theorem nm_lay : ∀ {d : De}, d.Nm → d.data.canLay0 = true ∧ d.data.depth ≤ 4
  | .rd c, h => up_lay (tup_lay (two_lay (st1 kw_ok.1) (st1 (nm_ok h)))) (by decide)
  | .wr s w, h => by
    refine up_lay (tup_lay (n := 1) fun d hd => ?_) (by decide)
    simp only [List.mem_cons, List.not_mem_nil, or_false] at hd
    rcases hd with rfl | rfl | rfl
    · exact st1 kw_ok.2.1
    · exact st1 (nm_ok h.1)
    · exact st1 (nm_ok h.2)
  | .bt ps, h => by
    refine up_lay (tup_lay (n := 3) (two_lay (up_lay (st1 kw_ok.2.2.1) (by decide)) (up_lay (tup_lay (n := 2) fun d hd => ?_) (by decide)))) (by decide)
    obtain ⟨p, hp, rfl⟩ := List.mem_map.mp hd
    exact tup_lay (two_lay (st1 (nm_ok (h p hp).1)) (st1 (nm_ok (h p hp).2)))
def deedsD (ds : List De) : PyData := .tuple [.str "deeds", .list (ds.map De.data)]
def textD (n : Nat) : PyData := .tuple [.str "text", .int (n : Nat)]
theorem deeds_lay {ds : List De} (h : ∀ d ∈ ds, d.Nm) : (deedsD ds).canLay0 = true ∧ (deedsD ds).depth ≤ 60 := by
  refine up_lay (tup_lay (n := 50) (two_lay (up_lay (st1 kw_ok.2.2.2.1) (by decide)) ?_)) (by decide)
  obtain ⟨a, b⟩ := lays_all (ds := ds.map De.data) fun d hd => by
    obtain ⟨y, hy, rfl⟩ := List.mem_map.mp hd
    exact up_lay (nm_lay (h y hy)) (by decide)
  exact ⟨by simp only [PyData.canLay0, a], by simp only [PyData.depth]; omega⟩
theorem text_lay (n : Nat) : (textD n).canLay0 = true ∧ (textD n).depth ≤ 60 :=
  up_lay (tup_lay (n := 50) (two_lay (up_lay (st1 kw_ok.2.2.2.2) (by decide)) ⟨rfl, by simp [PyData.depth]⟩)) (by decide)
theorem go_nm : ∀ {ls : List Str} {i : Nat} {acc ds : List De}, goF i ls acc = .ok ds → (∀ d ∈ acc, d.Nm) → ∀ d ∈ ds, d.Nm
  | [], i, acc, ds, h, ha => by cases h; exact ha
  | l :: ls, i, acc, ds, h, ha => by
    unfold goF at h
    cases e : saidF (Txt.split l sp1) with
    | none => rw [e] at h; cases h
    | some d =>
      rw [e] at h
      refine go_nm h fun x hx => ?_
      rcases List.mem_append.mp hx with hx | hx
      · exact ha x hx
      · rw [List.mem_singleton.mp hx]; exact said_nm e
end K41
namespace K41
open PySem PySem.Spec PyProof.Rows L2 Td TL
def spLaw (K : PySem.W.Frag) : Sp := fun vs H Q _ => ∃ (a : Addr) (ns : List Int), vs = [.ref a] ∧ SqL K H a (ns.map V.int) ∧ ns.length ≤ 63 ∧ ∀ H', Q (.bl true) H'
def bnd : Nat → Nat
  | 0 => 100
  | 1 => 420
  | _ => 1700
theorem cut_butl {ws : List Str} (h : ws ≠ []) : cutV (ws.map V.str) none (some (-1)) = ws.dropLast.map V.str := by
  have hl := List.length_pos_iff.mpr h
  unfold cutV
  rw [HT.sIx_none, List.drop_zero, Nat.sub_zero, List.dropLast_eq_take, List.map_take]
  congr 1
  rw [List.length_map]
  show (if (-1 : Int) < 0 then ((-1 : Int) + (ws.length : Int)).toNat else min (-1 : Int).toNat ws.length) = _
  rw [if_pos (by decide)]
  omega
theorem split_ne_nl (t : Str) : Txt.split t nl1 ≠ [] := fun e => by
  have := split_nl t
  rw [e] at this
  exact spl_ne _ _ _ _ this.symm
theorem ixN_nat {n j : Nat} (h : j < n) : ixN n (j : Int) = some j := by
  unfold ixN
  rw [if_pos (by omega), if_pos (by omega), Int.toNat_natCast]
section
variable {P : Program} {w : World} {K : PySem.W.Frag} {mg : Str → Option Value} {base : Heap}
theorem ok_law (T : Tops w K mg) (G__law_state : FnOk P w K mg base CX0 1 T.a__law_state T.d__law_state ["_law_script"] (spState K))
    (G__law_draw : FnOk P w K mg base CX0 1 T.a__law_draw T.d__law_draw ["_law_state_here", "_law_many_here"] spDraw)
    (G__law_parts : FnOk P w K mg base CX0 11 T.a__law_parts T.d__law_parts ["_law_state_here", "_law_sizes", "_law_peeks", "_law_writes"] (spParts K))
    (G__law_deed : FnOk P w K mg base CX0 2 T.a__law_deed T.d__law_deed ["_law_state_here", "_law_parts_here"] (spDeed K))
    (G__law_line : FnOk P w K mg base CX0 1 T.a__law_line T.d__law_line ["_law_deed_here"] (spLine K))
    (G_format_deeds : FnOk P w K mg base CX0 2 T.a_format_deeds T.d_format_deeds ["deeds"] (spFormat K))
    (G__law_parsed : FnOk P w K mg base CX0 6 T.a__law_parsed T.d__law_parsed ["_law_text"] (spParsed K))
    (G__law_bad : FnOk P w K mg base CX0 2 T.a__law_bad T.d__law_bad ["_law_state_here", "_law_line_here", "_law_name"] (spBad K))
    (G__law_said : FnOk P w K mg base CX0 2 T.a__law_said T.d__law_said ["_law_line_here"] (spSaid K)) :
    FnOk P w K mg base CX0 17 T.a_law T.d_law ["_law_script"] (spLaw K) := by
  refine T.F_law.ok sc_law (fun vs H Q E h => ?_) (fun cdv A outer s H vs Q E hr h => ?_)
  · obtain ⟨a, ns, rfl, _⟩ := h; rfl
  obtain ⟨a, ns, rfl, hN, hlen, q⟩ := h
  refine ⟨_, (pss_cons (ps_set (i := 1) sc_law.nd rfl (Or.inr rfl) (pe_call G__law_state (hr.mono (by omega)) rfl T.m__law_state T.F__law_state.kp T.b__law_state .nil pass0 (pa_cons (pv 0) pa_nil)))
    (pss_cons (ps_set (i := 2) sc_law.nd rfl (Or.inl rfl) (pe_call G__law_draw (hr.mono (by omega)) rfl T.m__law_draw T.F__law_draw.kp T.b__law_draw .nil pass0 (pa_cons (pv 1) (pa_cons pe_int pa_nil))))
    (pss_cons (ps_set (i := 3) sc_law.nd rfl (Or.inl rfl) (pe_call G__law_draw (hr.mono (by omega)) rfl T.m__law_draw T.F__law_draw.kp T.b__law_draw .nil pass0 (pa_cons (pv 1) (pa_cons pe_int pa_nil))))
    (pss_cons (ps_set (i := 4) sc_law.nd rfl (Or.inl rfl) (pe_cmpR op_eq (pe_call G__law_draw (hr.mono (by omega)) rfl T.m__law_draw T.F__law_draw.kp T.b__law_draw .nil pass0 (pa_cons (pv 1) (pa_cons pe_int pa_nil))) pe_int (nomark _)))
    (pss_cons (ps_set (i := 5) sc_law.nd rfl (Or.inr rfl) (pe_call G__law_parts (hr.mono (by omega)) rfl T.m__law_parts T.F__law_parts.kp T.b__law_parts .nil pass0 (pa_cons (pv 1) (pa_cons (pe_lst (pa_cons pe_int (pa_cons pe_int (pa_cons pe_int (pa_cons pe_int (pa_cons pe_int pa_nil)))))) (pa_cons pe_bl (pa_cons pe_bl pa_nil))))))
    (pss_cons (ps_setLc (i := 6) (own := [(("_law_turn" : Str), 9)]) (wi := (iRng1 (tCons (tVar 2) tNil))) (g := gName 9) (tt := tYes) (te := (tCall (spDeed K) [] E0 (tCons (tVar 1) (tCons (tVar 5) tNil)))) rfl sc_law.nd rfl rfl (sw_true rfl rfl rfl (by decide +kernel)) (pi_range1 rfl T.z_range (pa_cons (pv 2) pa_nil)) (blkOk_by (own := [(("_law_turn" : Str), 9)]) (N := N_law) (sc := defScope s_law) (by decide +kernel)) (fun _ _ _ _ _ => (pg_name (i := 9) sc_law.nd rfl (Or.inl rfl))) (fun _ _ _ _ _ => pts_nil) (fun _ _ _ _ _ => (pe_call G__law_deed (hr.mono (by omega)) rfl T.m__law_deed T.F__law_deed.kp T.b__law_deed .nil pass0 (pa_cons (pv 1) (pa_cons (pv 5) pa_nil)))))
    (pss_cons (ps_setLc (i := 7) (own := [(("_law_deed_here" : Str), 14)]) (wi := (iList K (tVar 6))) (g := gName 14) (tt := tYes) (te := (tCall (spLine K) [] E0 (tCons (tVar 14) tNil))) rfl sc_law.nd rfl rfl (sw_true rfl rfl rfl (by decide +kernel)) (pi_list (pv 6)) (blkOk_by (own := [(("_law_deed_here" : Str), 14)]) (N := N_law) (sc := defScope s_law) (by decide +kernel)) (fun _ _ _ _ _ => (pg_name (i := 14) sc_law.nd rfl (Or.inl rfl))) (fun _ _ _ _ _ => pts_nil) (fun _ _ _ _ _ => (pe_call G__law_line (hr.mono (by omega)) rfl T.m__law_line T.F__law_line.kp T.b__law_line .nil pass0 (pa_cons (pv 14) pa_nil))))
    (pss_cons (ps_set (i := 8) sc_law.nd rfl (Or.inl rfl) (pe_join pe_str (pe_lc (own := [(("_law_line_here" : Str), 13)]) (wi := (iList K (tVar 7))) (g := gName 13) (tt := tYes) (te := (tOp (fun x y H Q => ∃ i j, x = .str i ∧ y = .str j ∧ i.length + j.length ≤ sizeLine ∧ Q (.str (i ++ j)) H) (tVar 13) (tC (.str "
")))) rfl sc_law.nd (pi_list (pv 7)) (blkOk_by (own := [(("_law_line_here" : Str), 13)]) (N := N_law) (sc := defScope s_law) (by decide +kernel)) (fun _ _ _ _ _ => (pg_name (i := 13) sc_law.nd rfl (Or.inl rfl))) (fun _ _ _ _ _ => pts_nil) (fun _ _ _ _ _ => (pe_op op_add_str (pv 13) pe_str)))))
    (pss_cons (ps_if (pt_cmpR op_ne (pe_call G_format_deeds (hr.mono (by omega)) rfl T.m_format_deeds T.F_format_deeds.kp T.b_format_deeds .nil pass0 (pa_cons (pe_callTy call_list_of rfl T.z_list (by decide +kernel) (pa_cons (pv 6) pa_nil)) pa_nil)) (pv 8) (nomark _)) (pss_one (ps_ret pe_bl)) pss_nil)
    (pss_cons (ps_for PassesOwn.never rfl (pi_range1 rfl T.z_range (pa_cons pe_int pa_nil)) (pg_name (i := 9) sc_law.nd rfl (Or.inl rfl)) (pss_cons (ps_set (i := 10) sc_law.nd rfl (Or.inl rfl) (pe_call G__law_parsed (hr.mono (by omega)) rfl T.m__law_parsed T.F__law_parsed.kp T.b__law_parsed .nil pass0 (pa_cons (pv 8) pa_nil)))
    (pss_cons (ps_if (PW.pt (pw_or (pt_cmpR (op_neD hr.units) (pv 10) (pe_tup (pa_cons pe_str (pa_cons (pv 6) pa_nil))) (nomark _)) (pw_or1 (pt_not (pt_val (pe_callB call_isi rfl T.z_isinstance (by decide +kernel) (pa_cons (pe_ix ix_tup (pv 10) pe_int (fun _ _ => rfl)) (pa_cons (pe_bltn (v := .ty "list") rfl T.z_list (by decide +kernel) rfl) pa_nil)))))))) (pss_one (ps_ret pe_bl)) pss_nil)
    (pss_one (ps_expr (pe_bm PySem.F.plainAttrs_list PySem.F.slot_list_append PySem.F.type_list_append mt_append (pe_ix ix_tup (pv 10) pe_int (fun _ _ => rfl)) (pa_cons pe_non pa_nil)))))))
    (pss_cons (ps_for PassesOwn.never rfl (pi_range1 rfl T.z_range (pa_cons (pv 3) pa_nil)) (pg_name (i := 9) sc_law.nd rfl (Or.inl rfl)) (pss_one (ps_if (pt_cmpR op_gt (pe_callB call_len rfl T.z_len PySem.boot_len (pa_cons (pv 7) pa_nil)) pe_int (nomark _)) (pss_cons (ps_set (i := 11) sc_law.nd rfl (Or.inl rfl) (pe_call G__law_draw (hr.mono (by omega)) rfl T.m__law_draw T.F__law_draw.kp T.b__law_draw .nil pass0 (pa_cons (pv 1) (pa_cons (pe_callB call_len rfl T.z_len PySem.boot_len (pa_cons (pv 7) pa_nil)) pa_nil))))
    (pss_one (ps_if (PW.pt (pw_and (pt_cmpR op_ne (pe_ix ix_list (pv 7) (pv 11) (fun _ _ => rfl)) pe_str (nomark _)) (pw_and1 (pt_cmpR op_in_sign pe_str (pe_ix ix_list (pv 7) (pv 11) (fun _ _ => rfl)) (by rfl))))) (pss_one (ps_asg (pe_call G__law_bad (hr.mono (by omega)) rfl T.m__law_bad T.F__law_bad.kp T.b__law_bad .nil pass0 (pa_cons (pv 1) (pa_cons (pe_ix ix_list (pv 7) (pv 11) (fun _ _ => rfl)) (pa_cons (pe_ix ix_tup (pe_ix ix_tup (pv 5) pe_int (fun _ _ => rfl)) pe_int (fun _ _ => rfl)) pa_nil)))) (pg_sub (pv 7) (pv 11) set_list))) pss_nil))) pss_nil)))
    (pss_cons (ps_set (i := 8) sc_law.nd rfl (Or.inl rfl) (pe_join pe_str (pe_lc (own := [(("_law_line_here" : Str), 13)]) (wi := (iList K (tVar 7))) (g := gName 13) (tt := tYes) (te := (tOp (fun x y H Q => ∃ i j, x = .str i ∧ y = .str j ∧ i.length + j.length ≤ sizeLine ∧ Q (.str (i ++ j)) H) (tVar 13) (tC (.str "
")))) rfl sc_law.nd (pi_list (pv 7)) (blkOk_by (own := [(("_law_line_here" : Str), 13)]) (N := N_law) (sc := defScope s_law) (by decide +kernel)) (fun _ _ _ _ _ => (pg_name (i := 13) sc_law.nd rfl (Or.inl rfl))) (fun _ _ _ _ _ => pts_nil) (fun _ _ _ _ _ => (pe_op op_add_str (pv 13) pe_str)))))
    (C8.pss_cut (ps_if (pt_val (pv 4)) (pss_one (ps_set (i := 8) sc_law.nd rfl (Or.inl rfl) (pe_slice sl_str (pv 8) po_none (po_some (pe_un un_neg pe_int))))) pss_nil)
    (C8.pss_cut (ps_if (PW.pt (pw_and (pt_cmpR op_ne (pv 8) pe_str (nomark _)) (pw_and1 (pt_cmpR op_ne (pe_ix ix_str (pv 8) (pe_un un_neg pe_int) (fun _ _ => rfl)) pe_str (nomark _))))) (pss_one (ps_ret (pe_cmpR (op_eqD hr.units) (pe_call G__law_parsed (hr.mono (by omega)) rfl T.m__law_parsed T.F__law_parsed.kp T.b__law_parsed .nil pass0 (pa_cons (pv 8) pa_nil)) (pe_tup (pa_cons pe_str (pa_cons pe_int pa_nil))) (nomark _)))) pss_nil)
    (pss_cons (ps_set (i := 12) sc_law.nd rfl (Or.inl rfl) (pe_lst pa_nil))
    (pss_cons (ps_for PassesOwn.never rfl (pi_list (pe_slice sl_list (pe_split (pv 8) pe_str) po_none (po_some (pe_un un_neg pe_int)))) (pg_name (i := 13) sc_law.nd rfl (Or.inl rfl)) (pss_cons (ps_expr (pe_bm PySem.F.plainAttrs_list PySem.F.slot_list_append PySem.F.type_list_append mt_append (pv 12) (pa_cons (pe_call G__law_said (hr.mono (by omega)) rfl T.m__law_said T.F__law_said.kp T.b__law_said .nil pass0 (pa_cons (pv 13) pa_nil)) pa_nil)))
    (pss_one (ps_if (pt_cmpR op_isN (pe_ix ix_list (pv 12) (pe_un un_neg pe_int) (fun _ _ => rfl)) pe_non (nomark _)) (pss_one (ps_ret (pe_cmpR (op_eqD hr.units) (pe_call G__law_parsed (hr.mono (by omega)) rfl T.m__law_parsed T.F__law_parsed.kp T.b__law_parsed .nil pass0 (pa_cons (pv 8) pa_nil)) (pe_tup (pa_cons pe_str (pa_cons (pe_callB call_len rfl T.z_len PySem.boot_len (pa_cons (pv 12) pa_nil)) pa_nil))) (nomark _)))) pss_nil))))
    (pss_one (ps_ret (pe_cmpR (op_eqD hr.units) (pe_call G__law_parsed (hr.mono (by omega)) rfl T.m__law_parsed T.F__law_parsed.kp T.b__law_parsed .nil pass0 (pa_cons (pv 8) pa_nil)) (pe_tup (pa_cons pe_str (pa_cons (pv 12) pa_nil))) (nomark _)))))))))))))))))))), ?_⟩
  refine ⟨_, rfl, a, ns, rfl, hN, hlen, fun st sc H1 s1 f1 f2 o1 => ?_⟩
  refine ⟨_, rfl, st, sc, 13, rfl, by decide, by decide, o1, fun rm H2 m0 m1 k2 o2 _ => ?_⟩
  refine ⟨_, rfl, st, sc, 3, rfl, by decide, by decide, o2, fun rs H3 p0 p1 k3 o3 _ => ?_⟩
  refine ⟨_, rfl, st, sc, 8, rfl, by decide, by decide, o3, fun r8 H4 _ _ k4 o4 _ => ?_⟩
  refine ⟨rfl, ?_⟩
  generalize decide (V.int r8 = V.int 0) = short
  refine ⟨_, rfl, by show 5 ≤ sizeLine; decide, fun z hz => ?_⟩
  refine ⟨st, sc, z, 3, 4, 6, 0, 3, false, false, rfl, o4.new hz, SqL.of upd_same, (o4.ne hz).1, by decide, by decide, by decide, by decide, by decide, by decide, by decide, by decide, by decide, by decide, fun v p H5 k5 o5 ok hP => ?_⟩
  clear k5 o4 k4 o3 k3 o2 k2 o1 s1 f1 f2
  -- the deeds
  refine ⟨_, rfl, rm, rfl, by omega, by omega, fun D hD => lc_range (lo := 0) (n := rm.toNat) (fun i H' => ∃ (ds : List De) (cs : List V), Keep st H5 H' ∧ StOk H' st sc ∧ H' D = some (.lst cs) ∧ TnAll K H' cs (ds.map De.data) ∧ ds.length = i ∧ ∀ d ∈ ds, d.Good)
    ⟨[], [], Keep.new hD, o5.new hD, upd_same, .nil, rfl, by simp⟩ ?_ ?_⟩
  · rintro i H6 hi ⟨ds, cs, k6, o6, e6, hT, hl, hg⟩
    refine ⟨rfl, ?_⟩
    refine tYes_of ?_
    have nD := o5.ne hD
    refine ⟨_, rfl, _, rfl, st, sc, v, p, _, rfl, o6, Tn.keep (TK.of_keep k6 o5.chg) hP, ok, fun u d H7 k7 o7 g hd => ?_⟩
    have e7 := k7 _ _ nD.1 e6
    have tk : TK H7 (upd H7 D (.lst (cs ++ [u]))) := TK.upd (by rw [e7]; trivial)
    refine ⟨cs, e7, small1000 (by rw [hT.length, List.length_map, hl]; omega), ds ++ [d], _, Keep.own (k6.trans k7) hD, o7.other nD.1 nD.2, upd_same, ?_, by simp [hl], fun x hx => ?_⟩
    · rw [List.map_append]
      exact TnAll.append (TnAll.keep tk (TnAll.keep (TK.of_keep k7 o6.chg) hT)) (TnAll.one (Tn.keep tk hd))
    · rcases List.mem_append.mp hx with hx | hx
      · exact hg x hx
      · rw [List.mem_singleton.mp hx]; exact g
  rintro H6 ⟨ds, cs, k6, o6, e6, hT, hl, hg⟩
  have dl : ds.length ≤ 12 := by omega
  have cl : cs.length = ds.length := by rw [hT.length, List.length_map]
  have hP6 := Tn.keep (TK.of_keep k6 o5.chg) hP
  -- their lines
  refine ⟨_, rfl, D, rfl, ⟨_, SqL.of e6⟩, fun L hL => lc_list (K := K) (a := D) (xs := cs) (fun i H' => Same H6 H' ∧ H' L = some (.lst (((ds.take i).map lineOf).map V.str)))
    ⟨Same.new hL _, upd_same⟩ (fun i H' _ ⟨s', _⟩ => SqL.of (s' _ _ e6)) ?_ ?_⟩
  · rintro i x H7 hi ⟨s7, h7⟩
    obtain ⟨d0, h2, h3⟩ := hT.get hi
    rw [List.getElem?_map] at h2
    obtain ⟨d, e, rfl⟩ := Option.map_eq_some_iff.mp h2
    have il := (List.getElem?_eq_some_iff.mp e).1
    refine ⟨rfl, ?_⟩
    refine tYes_of ?_
    refine ⟨_, rfl, x, d, rfl, Tn.keep (TK.of_same s7) h3, hg d (List.mem_of_getElem? e), fun H8 s8 => ?_⟩
    have s78 := s7.trans s8
    refine ⟨_, s8 _ _ h7, small1000 (by rw [List.length_map, List.length_map, List.length_take]; omega), K41.Same.own s78 hL, ?_⟩
    rw [List.take_succ, e, List.map_append, List.map_append]
    exact upd_same
  rintro H7 ⟨s7, e7⟩
  rw [cl, List.take_length] at e7
  have lz : ∀ z ∈ ds.map lineOf, z.length ≤ 100 := fun z hz => by
    obtain ⟨d, hd, rfl⟩ := List.mem_map.mp hz
    exact line_len (hg d hd)
  have lz2 : ∀ z ∈ ds.map lineOf, z.length ≤ 2900 := fun z hz => Nat.le_trans (lz z hz) (by decide)
  have ll : (ds.map lineOf).length = ds.length := List.length_map _
  refine ⟨⟨_, rfl⟩, _, rfl, L, rfl, ⟨_, SqL.of e7⟩, fun D8 hD8 => lc_list (K := K) (a := L) (xs := (ds.map lineOf).map V.str) (fun i H' => Same H7 H' ∧ H' D8 = some (.lst ((((ds.map lineOf).take i).map fun z => z ++ nl1).map V.str)))
    ⟨Same.new hD8 _, upd_same⟩ (fun i H' _ ⟨s', _⟩ => SqL.of (s' _ _ e7)) ?_ ?_⟩
  · rintro i x HX hi ⟨sX, hX⟩
    rw [List.getElem?_map] at hi
    obtain ⟨z, e, rfl⟩ := Option.map_eq_some_iff.mp hi
    have il := (List.getElem?_eq_some_iff.mp e).1
    refine ⟨rfl, ?_⟩
    refine tYes_of ?_
    refine ⟨_, rfl, z, nl1, rfl, rfl, of5000 (Nat.le_trans (Nat.add_le_add (lz2 z (List.mem_of_getElem? e)) (by decide +kernel : nl1.length ≤ 1)) (by decide)), ?_⟩
    refine ⟨_, hX, small1000 (by rw [List.length_map, List.length_map, List.length_take]; omega), K41.Same.own sX hD8, ?_⟩
    rw [List.take_succ, e, List.map_append, List.map_append]
    exact upd_same
  rintro H8 ⟨s8, h8⟩
  rw [List.length_map, List.take_length] at h8
  refine ⟨Str.empty, D8, _, rfl, rfl, .inl (SqL.of h8), by rw [show Str.empty.length = 0 by decide +kernel, Nat.mul_zero]; exact Nat.le_trans (sum_le (n := 2901) fun x hx => by
    obtain ⟨z, hz', rfl⟩ := List.mem_map.mp hx
    rw [Str.length_append]
    exact Nat.add_le_add (lz2 z hz') (by decide +kernel : nl1.length ≤ 1)) (by rw [List.length_map]; omega), ?_⟩
  have pt := parse_text hg
  have tx := Txs.of lz2 (by omega)
  show tSeq _ _ _ _ _
  -- the module's own text
  have s78 := s7.trans s8
  have e68 := s78 _ _ e6
  refine ⟨_, rfl, D, _, rfl, .inl (SqL.of e68), fun c hc => ?_⟩
  have s9 := Same.new hc (.lst cs)
  refine ⟨c, cs, ds, rfl, upd_same, TnAll.keep (TK.of_same (s78.trans s9)) hT, hg, by omega, fun H10 s10 => ?_⟩
  refine ⟨_, rfl, rfl, _, rfl, if_false_of (congrArg Bool.not (decide_eq_true rfl)) ?_⟩
  have s610 := s78.trans (s9.trans s10)
  have e10 := s610 _ _ e6
  have hT10 := TnAll.keep (TK.of_same s610) hT
  have eL10 := s10 _ _ (s9 _ _ (s8 _ _ e7))
  have o10 := stGo o6 s610
  have hP10 := Tn.keep (TK.of_same s610) hP6
  have nL := o6.ne hL
  have nmd : ∀ d ∈ ds, d.Nm := fun d hd => Good_nm (hg d hd)
  clear s10 s9 s78 s7 s610 hP6 hP
  -- parsed, twice
  refine ⟨2, rfl, by decide, by decide, for_range (lo := 0) (n := (2 : Int).toNat) (fun i σ H' => ∃ (v9 v10 : Option V), σ = [some (.ref a), some (.ref st), some (.int rm), some (.int rs), some (.bl short), some v, some (.ref D), some (.ref L), some (.str (textOf (ds.map lineOf))), v9, v10, none, none, none, none] ∧ Same H10 H')
    ⟨none, none, rfl, Same.refl _⟩ ?_ ?_⟩
  · rintro i σ H11 hi ⟨v9, v10, rfl, s11⟩
    refine ⟨_, rfl, _, rfl, tx.len, tx.lines, fun ds' e u l cs' H12 s12 fl el hT' hu => ?_, fun n e => absurd (pt.symm.trans e) (by simp)⟩
    obtain rfl : ds = ds' := by have := pt.symm.trans e; simpa using this
    have s1012 := s11.trans s12
    refine ⟨_, rfl, _, rfl, by show 2 ≤ sizeLine; decide, fun u2 hu2 => ?_⟩
    have s13 := Same.new hu2 (.tup [V.str "deeds", .ref D])
    have el3 := s13 _ _ el
    have hu3 := SqT.same s13 hu
    refine ne_same (d := deedsD ds) (.tup hu3 (.cons (.str _) (.cons (.lst (SqL.of el3) (TnAll.dp (TnAll.keep (TK.of_same s13) hT'))) .nil))) (.tup (SqT.of upd_same) (.cons (.str _) (.cons (.lst (SqL.of (s13 _ _ (s1012 _ _ e10))) (TnAll.dp (TnAll.keep (TK.of_same (s1012.trans s13)) hT10))) .nil))) (deeds_lay nmd).1 (deeds_lay nmd).2 ⟨_, rfl, ?_⟩
    refine if_false_of rfl ?_
    refine ⟨_, rfl, u, _, 1, _, rfl, rfl, hu3, rfl, .ref l, .ty "list", .type "list", .type "list", true, rfl, .ty _, .base (.lst el3), kit_ty (by decide +kernel), true, rfl, iteF ?_⟩
    refine ⟨_, rfl, u, _, 1, _, rfl, rfl, hu3, rfl, .inl ⟨rfl, _, SqL.of el3⟩, l, cs', _, rfl, rfl, el3, small1000 (by rw [hT'.length, List.length_map]; omega), ?_⟩
    have fl10 : H10 l = none := by
      cases z : H10 l with
      | none => rfl
      | some o => rw [s11 _ _ z] at fl; cases fl
    exact ⟨_, _, rfl, K41.Same.own (s1012.trans s13) fl10⟩
  rintro σ HB ⟨v9, v10, rfl, sB⟩
  obtain ⟨pa, aw, as, vd, ve, rfl, hPa, hW, hS, _, _⟩ := parts_at (Tn.keep (TK.of_same sB) hP10)
  have oB := stGo o10 sB
  have eB := sB _ _ eL10
  obtain ⟨s0, hs0⟩ : ∃ s0, p.sources[0]? = some s0 := ⟨_, List.getElem?_eq_getElem (by have := ok.s1; omega)⟩
  have s0l : s0.length ≤ 8 := (isNm_len (cell_nm ok (.inl (List.mem_of_getElem? hs0)))).2.1
  have at0 : atI (p.sources.map V.str) 0 = some (.str s0) := atI_nat (j := 0) (by rw [List.getElem?_map, hs0]; rfl)
  clear hT10 hP10 e10 eL10 o10
  -- some lines are spoilt
  refine ⟨_, rfl, rs, rfl, by omega, by omega, for_range (lo := 0) (n := rs.toNat) (fun i σ H' => ∃ (v9 v11 : Option V) (ls : List Str), σ = [some (.ref a), some (.ref st), some (.int rm), some (.int rs), some (.bl short), some (.ref pa), some (.ref D), some (.ref L), some (.str (textOf (ds.map lineOf))), v9, v10, v11, none, none, none] ∧ TK HB H' ∧ StOk H' st sc ∧
      H' L = some (.lst (ls.map V.str)) ∧ ls.length = ds.length ∧ ∀ z ∈ ls, z.length ≤ bnd i)
    ⟨v9, none, ds.map lineOf, rfl, TK.refl _, oB, eB, ll, lz⟩ ?_ ?_⟩
  · rintro i σ H11 hi ⟨v9, v11, ls, rfl, tk, o11, e11, hl, hz⟩
    have i2 : i < 2 := by omega
    have bm : bnd i ≤ bnd (i + 1) ∧ bnd i ≤ 700 ∧ 4 * bnd i + 20 ≤ bnd (i + 1) := by
      match i, i2 with
      | 0, _ => decide
      | 1, _ => decide
    have stay : ∀ z ∈ ls, z.length ≤ bnd (i + 1) := fun z h => Nat.le_trans (hz z h) bm.1
    have wl : (ls.map V.str).length = ls.length := List.length_map _
    refine ⟨_, rfl, .ref L, _, rfl, .inl ⟨_, SqL.of e11, rfl⟩, _, _, rfl, rfl, _, rfl, ?_⟩
    by_cases l0 : (0 : Int) < (((ls.map V.str).length : Nat) : Int)
    · refine if_true_of (decide_eq_true l0) ?_
      refine ⟨_, rfl, _, rfl, .ref L, _, rfl, .inl ⟨_, SqL.of e11, rfl⟩, st, sc, _, rfl, l0, by omega, o11, fun r H12 g0 g1 k12 o12 _ => ?_⟩
      obtain ⟨j, z, hj, rfl, hat⟩ := pick_at g0 g1
      have e12 := k12 _ _ nL.1 e11
      have tk12 := tk.trans (TK.of_keep k12 o11.chg)
      have jl := (List.getElem?_eq_some_iff.mp hj).1
      have zl := hz z (List.mem_of_getElem? hj)
      refine ⟨_, rfl, _, rfl, L, _, _, _, rfl, rfl, SqL.of e12, hat, rfl, _, rfl, ?_⟩
      by_cases z0 : z = ""
      · exact if_false_of (by rw [decide_eq_true (congrArg V.str z0)]; rfl) ⟨_, _, ls, rfl, tk12, o12, e12, hl, stay⟩
      refine if_true_of (by rw [decide_eq_false (fun x => z0 (V.str.inj x))]; rfl) ?_
      refine ⟨_, rfl, _, rfl, L, _, _, _, rfl, rfl, SqL.of e12, hat, 32, z, rfl, rfl, _, rfl, ?_⟩
      by_cases h32 : 32 ∈ z.cps.toList
      · refine if_true_of (decide_eq_true h32) ?_
        refine ⟨_, rfl, _, rfl, _, rfl, L, _, _, _, rfl, rfl, SqL.of e12, hat, _, rfl, pa, _, 1, _, rfl, rfl, SqT.tk tk12 hPa, rfl, as, _, 0, _, rfl, rfl, SqT.tk tk12 hS, at0, st, sc, z, s0, rfl, o12, h32, by omega, s0l, fun z2 H13 k13 o13 hz2 => ?_⟩
        have e13 := k13 _ _ nL.1 e12
        refine ⟨_, rfl, _, rfl, L, _, _, j, rfl, rfl, e13, ixN_nat (by omega), ?_⟩
        rw [show (ls.map V.str).set j (.str z2) = (ls.set j z2).map V.str from (List.map_set).symm]
        refine ⟨_, _, ls.set j z2, rfl, (tk12.trans (TK.of_keep k13 o12.chg)).trans (TK.upd (by rw [e13]; trivial)), o13.other nL.1 nL.2, upd_same, by rw [List.length_set]; exact hl, fun y hy => ?_⟩
        rcases List.mem_or_eq_of_mem_set hy with hy | rfl
        · exact stay y hy
        · omega
      · exact if_false_of (decide_eq_false h32) ⟨_, _, ls, rfl, tk12, o12, e12, hl, stay⟩
    · exact if_false_of (decide_eq_false l0) ⟨_, _, ls, rfl, tk, o11, e11, hl, stay⟩
  rintro σ H11 ⟨v9, v11, ls, rfl, tk, o11, e11, hl, hz⟩
  have b2 : bnd rs.toNat ≤ 1700 := by
    have : rs.toNat < 3 := by omega
    match rs.toNat, this with
    | 0, _ => decide
    | 1, _ => decide
    | 2, _ => decide
  have hz2 : ∀ z ∈ ls, z.length ≤ 2900 := fun z h => by have := hz z h; omega
  refine ⟨⟨_, rfl⟩, _, rfl, L, rfl, ⟨_, SqL.of e11⟩, fun D12 hD12 => lc_list (K := K) (a := L) (xs := (ls).map V.str) (fun i H' => Same H11 H' ∧ H' D12 = some (.lst ((((ls).take i).map fun z => z ++ nl1).map V.str)))
    ⟨Same.new hD12 _, upd_same⟩ (fun i H' _ ⟨s', _⟩ => SqL.of (s' _ _ e11)) ?_ ?_⟩
  · rintro i x HX hi ⟨sX, hX⟩
    rw [List.getElem?_map] at hi
    obtain ⟨z, e, rfl⟩ := Option.map_eq_some_iff.mp hi
    have il := (List.getElem?_eq_some_iff.mp e).1
    refine ⟨rfl, ?_⟩
    refine tYes_of ?_
    refine ⟨_, rfl, z, nl1, rfl, rfl, of5000 (Nat.le_trans (Nat.add_le_add (hz2 z (List.mem_of_getElem? e)) (by decide +kernel : nl1.length ≤ 1)) (by decide)), ?_⟩
    refine ⟨_, hX, small1000 (by rw [List.length_map, List.length_map, List.length_take]; omega), K41.Same.own sX hD12, ?_⟩
    rw [List.take_succ, e, List.map_append, List.map_append]
    exact upd_same
  rintro H12 ⟨s12, h12⟩
  rw [List.length_map, List.take_length] at h12
  refine ⟨Str.empty, D12, _, rfl, rfl, .inl (SqL.of h12), by rw [show Str.empty.length = 0 by decide +kernel, Nat.mul_zero]; exact Nat.le_trans (sum_le (n := 2901) fun x hx => by
    obtain ⟨z, hz', rfl⟩ := List.mem_map.mp hx
    rw [Str.length_append]
    exact Nat.add_le_add (hz2 z hz') (by decide +kernel : nl1.length ≤ 1)) (by rw [List.length_map]; omega), ?_⟩
  have tx1 := Txs.of hz2 (by omega)
  clear tk o11 e11 hz hz2 h12 s12
  refine ⟨fun σ' H' => ∃ t, Txs t ∧ σ' = [some (.ref a), some (.ref st), some (.int rm), some (.int rs), some (.bl short), some (.ref pa), some (.ref D), some (.ref L), some (.str t), v9, v10, v11, none, none, none], ?_, ?_⟩
  · refine ⟨_, rfl, _, rfl, ?_⟩
    cases short with
    | true => exact if_true_of rfl ⟨_, rfl, 1, rfl, -1, rfl, textOf ls, rfl, Nat.le_trans tx1.len (by decide), _, tx1.short, rfl⟩
    | false => exact if_false_of rfl ⟨_, tx1, rfl⟩
  rintro _ H13 ⟨t, txt, rfl⟩
  have tl5 : t.length ≤ sizeLine := Nat.le_trans txt.len (by decide)
  refine ⟨fun σ' H' => σ' = [some (.ref a), some (.ref st), some (.int rm), some (.int rs), some (.bl short), some (.ref pa), some (.ref D), some (.ref L), some (.str t), v9, v10, v11, none, none, none] ∧ (tl t = [] ∨ (tl t).getLast? = some 10), ?_, ?_⟩
  · refine ⟨_, rfl, rfl, _, rfl, ?_⟩
    by_cases n0 : tl t = []
    · have e0 : t = "" := ext_tl (n0.trans (by decide +kernel))
      exact if_false_of (by rw [decide_eq_true (congrArg V.str e0)]; rfl) ⟨rfl, .inl n0⟩
    refine if_true_of (by rw [decide_eq_false (fun x => n0 (by rw [V.str.inj x]; decide +kernel))]; rfl) ?_
    obtain ⟨M, c, e2⟩ : ∃ M c, tl t = M ++ [c] := ⟨_, _, (List.dropLast_concat_getLast n0).symm⟩
    have el : (tl t).getLast? = some c := by rw [e2, List.getLast?_concat]
    have hat : atI t.cps.toList (-1) = some c := by
      show atI (tl t) (-1) = some c
      rw [e2]
      exact atI_last _ _
    refine ⟨_, rfl, 1, rfl, t, -1, c, rfl, rfl, tl5, hat, rfl, _, rfl, ?_⟩
    by_cases c10 : c = 10
    · subst c10
      exact if_false_of (congrArg Bool.not (decide_eq_true (show V.str ⟨#[10]⟩ = V.str ("\n" : Str) by decide +kernel))) ⟨rfl, .inr el⟩
    · refine if_true_of (congrArg Bool.not (decide_eq_false (fun x => c10 ?_))) ?_
      · have := congrArg tl (V.str.inj x)
        have e3 : tl ("\n" : Str) = [10] := tl_nl
        rw [e3] at this
        exact (List.cons.inj this).1
      · have pz := parse_zero n0 (by rw [el]; exact fun x => c10 (Option.some.inj x))
        refine ⟨_, rfl, t, rfl, txt.len, txt.lines, fun ds e => absurd (pz.symm.trans e) (by simp), fun n e u H14 s14 hu => ?_⟩
        obtain rfl : 0 = n := by have := pz.symm.trans e; simpa using this
        refine ⟨by show 2 ≤ sizeLine; decide, fun u2 hu2 => ?_⟩
        exact eq_same (d := textD 0) (.tup (SqT.same (Same.new hu2 _) hu) (.cons (.str _) (.cons (.int _) .nil))) (.tup (SqT.of upd_same) (.cons (.str _) (.cons (.int _) .nil))) (text_lay 0).1 (text_lay 0).2 (q _)
  rintro _ H14 ⟨rfl, h0⟩
  have pl := parse_lines h0
  refine ⟨by show 0 ≤ sizeLine; decide, fun du hdu => ?_⟩
  have ed : upd H14 du (.lst []) du = some (.lst []) := upd_same
  dsimp only
  generalize upd H14 du (.lst []) = H15 at ed
  refine ⟨_, rfl, ⟨_, rfl⟩, t, nl1, rfl, rfl, by decide +kernel, Nat.le_trans (Nat.add_le_add_right txt.len 2) (by decide), fun c1 hc1 => ⟨1, rfl, -1, rfl, c1, _, rfl, SqL.of upd_same, fun c2 hc2 => ?_⟩⟩
  rw [show cutV ((Txt.split t nl1).map V.str) none (some (-1)) = (linesF t).map V.str from cut_butl (split_ne_nl t)]
  have ed2 := Same.new hc2 (.lst ((linesF t).map V.str)) _ _ (Same.new hc1 (.lst ((Txt.split t nl1).map V.str)) _ _ ed)
  have ndc : du ≠ c2 := ne_of_none (Same.new hc1 (.lst ((Txt.split t nl1).map V.str)) _ _ ed) hc2
  refine ⟨c2, rfl, ⟨_, SqL.of upd_same⟩, for_list (K := K) (a := c2) (xs := (linesF t).map V.str) (fun i σ H' => ∃ (v13 : Option V) (vs : List V) (acc : List De), σ = [some (.ref a), some (.ref st), some (.int rm), some (.int rs), some (.bl short), some (.ref pa), some (.ref D), some (.ref L), some (.str t), v9, v10, v11, some (.ref du), v13, none] ∧
      H' c2 = some (.lst ((linesF t).map V.str)) ∧ H' du = some (.lst vs) ∧ TnAll K H' vs (acc.map De.data) ∧ acc.length = i ∧ goF i ((linesF t).drop i) acc = parseF t ∧ ∀ d ∈ acc, d.Nm)
    ⟨none, [], [], rfl, upd_same, ed2, .nil, rfl, by rw [List.drop_zero, pl], by simp⟩ (fun i σ H' _ ⟨_, _, _, _, h, _⟩ => SqL.of h) ?_ ?_⟩
  · rintro i x σ H16 hi ⟨v13, vs, acc, rfl, ec, edu, hT, ha, hgo, hnm⟩
    rw [List.getElem?_map] at hi
    obtain ⟨ln, hln, rfl⟩ := Option.map_eq_some_iff.mp hi
    have il : i < (linesF t).length := (List.getElem?_eq_some_iff.mp hln).1
    have hdr : (linesF t).drop i = ln :: (linesF t).drop (i + 1) := by
      have := (List.getElem?_eq_some_iff.mp hln).2
      rw [← this]
      exact List.drop_eq_getElem_cons il
    rw [hdr] at hgo
    have few := lines_few txt.len
    have vl : vs.length = i := by rw [hT.length, List.length_map, ha]
    have room : vs.length < sizeLine := Nat.lt_of_le_of_lt (by omega : vs.length ≤ 100000) (by decide)
    refine ⟨_, rfl, .inl ⟨rfl, _, SqL.of edu⟩, _, rfl, ln, _, rfl, rfl, txt.lines ln (List.mem_of_getElem? hln), fun e H17 s17 => ?_, fun d e v H17 s17 hd => ?_⟩
    · have er : parseF t = .error (i + 1) := by
        rw [← hgo]
        unfold goF
        rw [e]
      refine ⟨du, vs, _, rfl, rfl, s17 _ _ edu, room, ?_⟩
      refine ⟨_, rfl, 1, rfl, du, _, -1, .non, rfl, rfl, SqL.of upd_same, atI_last _ _, rfl, _, rfl, if_true_of (decide_eq_true rfl) ?_⟩
      refine ⟨_, rfl, t, rfl, txt.len, txt.lines, fun ds e2 => absurd (er.symm.trans e2) (by simp), fun n e2 u H18 s18 hu => ?_⟩
      obtain rfl : i + 1 = n := by have := er.symm.trans e2; simpa using this
      have ev := s18 _ _ (upd_same (H := H17) (a := du) (o := .lst (vs ++ [.non])))
      refine ⟨_, rfl, .ref du, _, rfl, .inl ⟨_, SqL.of ev, rfl⟩, by show 2 ≤ sizeLine; decide, fun u2 hu2 => ?_⟩
      have el : (vs ++ [V.non]).length = i + 1 := by rw [List.length_append, vl]; rfl
      rw [el]
      exact eq_same (d := textD (i + 1)) (.tup (SqT.same (Same.new hu2 _) hu) (.cons (.str _) (.cons (.int _) .nil))) (.tup (SqT.of upd_same) (.cons (.str _) (.cons (.int _) .nil))) (text_lay _).1 (text_lay _).2 (q _)
    · have er : goF (i + 1) ((linesF t).drop (i + 1)) (acc ++ [d]) = parseF t := by
        rw [← hgo]
        conv => rhs; unfold goF
        rw [e]
      obtain ⟨b, rfl, hA⟩ := De.at_ hd
      have edu7 := s17 _ _ edu
      have tk : TK H17 (upd H17 du (.lst (vs ++ [.ref b]))) := TK.upd (by rw [edu7]; trivial)
      refine ⟨du, vs, _, rfl, rfl, edu7, room, ?_⟩
      refine ⟨_, rfl, 1, rfl, du, _, -1, .ref b, rfl, rfl, SqL.of upd_same, atI_last _ _, rfl, _, rfl, if_false_of (decide_eq_false (fun x => nomatch x)) ?_⟩
      refine ⟨_, _, acc ++ [d], rfl, by rw [upd_ne ndc.symm]; exact s17 _ _ ec, upd_same, ?_, by simp [ha], er, fun y hy => ?_⟩
      · rw [List.map_append]
        exact TnAll.append (TnAll.keep tk (TnAll.keep (TK.of_same s17) hT)) (TnAll.one (Tn.keep tk hd))
      · rcases List.mem_append.mp hy with hy | hy
        · exact hnm y hy
        · rw [List.mem_singleton.mp hy]; exact said_nm e
  rintro σ H16 ⟨v13, vs, acc, rfl, ec, edu, hT, ha, hgo, hnm⟩
  rw [List.drop_of_length_le (by rw [List.length_map]; exact Nat.le_refl _)] at hgo
  refine ⟨_, rfl, t, rfl, txt.len, txt.lines, fun ds e u l cs' H17 s17 fl el hT' hu => ?_, fun n e => absurd (hgo.trans e) (fun x => nomatch x)⟩
  obtain rfl : acc = ds := by have := hgo.trans e; exact Except.ok.inj this
  refine ⟨_, rfl, by show 2 ≤ sizeLine; decide, fun u2 hu2 => ?_⟩
  have s18 := Same.new hu2 (.tup [V.str "deeds", .ref du])
  exact eq_same (d := deedsD acc) (.tup (SqT.same s18 hu) (.cons (.str _) (.cons (.lst (SqL.of (s18 _ _ el)) (TnAll.dp (TnAll.keep (TK.of_same s18) hT'))) .nil)))
    (.tup (SqT.of upd_same) (.cons (.str _) (.cons (.lst (SqL.of (s18 _ _ (s17 _ _ edu))) (TnAll.dp (TnAll.keep (TK.of_same (s17.trans s18)) hT))) .nil))) (deeds_lay hnm).1 (deeds_lay hnm).2 (q _)
end
end K41
namespace K41
open PySem PySem.Spec PyProof.Rows L2 Td
theorem law_of {w : World} {K : PySem.W.Frag} {mg : Str → Option Value} {base : Heap} (T : Tops w K mg) : FnOk PySem.Challenge.pw_toldonward_k41_deed_texts w K mg base CX0 17 T.a_law T.d_law ["_law_script"] (spLaw K) := by
  have draw := ok_draw (P := PySem.Challenge.pw_toldonward_k41_deed_texts) (base := base) T
  have nms := ok_names (P := PySem.Challenge.pw_toldonward_k41_deed_texts) (base := base) T draw
  have row := ok_row (P := PySem.Challenge.pw_toldonward_k41_deed_texts) (base := base) T draw
  have rows := ok_rows T draw row (ok_many T 5) 5
  have parts := ok_parts T draw nms rows
  have sta := ok_state (P := PySem.Challenge.pw_toldonward_k41_deed_texts) (base := base) T
  have isn := ok_is_nameS (P := PySem.Challenge.pw_toldonward_k41_deed_texts) (base := base) T
  have lin := ok_law_is_nameS (P := PySem.Challenge.pw_toldonward_k41_deed_texts) (base := base) T
  have fmt := ok_format T (ok_line_of (P := PySem.Challenge.pw_toldonward_k41_deed_texts) (base := base) T) (ok_joined T)
  have iT := ok_InvalidText (P := PySem.Challenge.pw_toldonward_k41_deed_texts) (base := base) T
  have par := ok_parsed T (ok_parse T iT (ok_lines_of T iT) (ok_deed_of T isn))
  exact ok_law T sta draw parts (ok_law_deed T draw) (ok_law_line T) fmt par (ok_law_bad T draw) (ok_law_said T lin)
abbrev D_is_name : He.DefD := ⟨("is_name", none), "is_name", "is_name", defArgs s_is_name, defBody s_is_name, defScope s_is_name, [], []⟩
abbrev D_InvalidText_init : He.DefD := ⟨("InvalidText", some "__init__"), "__init__", "InvalidText.__init__", defArgs s_InvalidText_init, defBody s_InvalidText_init, defScope s_InvalidText_init, [], []⟩
abbrev D_lines_of : He.DefD := ⟨("lines_of", none), "lines_of", "lines_of", defArgs s_lines_of, defBody s_lines_of, defScope s_lines_of, [], []⟩
abbrev D_joined : He.DefD := ⟨("joined", none), "joined", "joined", defArgs s_joined, defBody s_joined, defScope s_joined, [], []⟩
abbrev D_format_deeds : He.DefD := ⟨("format_deeds", none), "format_deeds", "format_deeds", defArgs s_format_deeds, defBody s_format_deeds, defScope s_format_deeds, [], []⟩
abbrev D_line_of_deed : He.DefD := ⟨("line_of_deed", none), "line_of_deed", "line_of_deed", defArgs s_line_of_deed, defBody s_line_of_deed, defScope s_line_of_deed, [], []⟩
abbrev D_parse_deeds : He.DefD := ⟨("parse_deeds", none), "parse_deeds", "parse_deeds", defArgs s_parse_deeds, defBody s_parse_deeds, defScope s_parse_deeds, [], []⟩
abbrev D_deed_of : He.DefD := ⟨("deed_of", none), "deed_of", "deed_of", defArgs s_deed_of, defBody s_deed_of, defScope s_deed_of, [], []⟩
abbrev D_law_state : He.DefD := ⟨("_law_state", none), "_law_state", "_law_state", defArgs s_law_state, defBody s_law_state, defScope s_law_state, [], []⟩
abbrev D_law_draw : He.DefD := ⟨("_law_draw", none), "_law_draw", "_law_draw", defArgs s_law_draw, defBody s_law_draw, defScope s_law_draw, [], []⟩
abbrev D_law_names : He.DefD := ⟨("_law_names", none), "_law_names", "_law_names", defArgs s_law_names, defBody s_law_names, defScope s_law_names, [], []⟩
abbrev D_law_many : He.DefD := ⟨("_law_many", none), "_law_many", "_law_many", defArgs s_law_many, defBody s_law_many, defScope s_law_many, [], []⟩
abbrev D_law_row : He.DefD := ⟨("_law_row", none), "_law_row", "_law_row", defArgs s_law_row, defBody s_law_row, defScope s_law_row, [], []⟩
abbrev D_law_rows : He.DefD := ⟨("_law_rows", none), "_law_rows", "_law_rows", defArgs s_law_rows, defBody s_law_rows, defScope s_law_rows, [], []⟩
abbrev D_law_parts : He.DefD := ⟨("_law_parts", none), "_law_parts", "_law_parts", defArgs s_law_parts, defBody s_law_parts, defScope s_law_parts, [], []⟩
abbrev D_law_deed : He.DefD := ⟨("_law_deed", none), "_law_deed", "_law_deed", defArgs s_law_deed, defBody s_law_deed, defScope s_law_deed, [], []⟩
abbrev D_law_is_name : He.DefD := ⟨("_law_is_name", none), "_law_is_name", "_law_is_name", defArgs s_law_is_name, defBody s_law_is_name, defScope s_law_is_name, [], []⟩
abbrev D_law_line : He.DefD := ⟨("_law_line", none), "_law_line", "_law_line", defArgs s_law_line, defBody s_law_line, defScope s_law_line, [], []⟩
abbrev D_law_said : He.DefD := ⟨("_law_said", none), "_law_said", "_law_said", defArgs s_law_said, defBody s_law_said, defScope s_law_said, [], []⟩
abbrev D_law_bad : He.DefD := ⟨("_law_bad", none), "_law_bad", "_law_bad", defArgs s_law_bad, defBody s_law_bad, defScope s_law_bad, [], []⟩
abbrev D_law_parsed : He.DefD := ⟨("_law_parsed", none), "_law_parsed", "_law_parsed", defArgs s_law_parsed, defBody s_law_parsed, defScope s_law_parsed, [], []⟩
abbrev D_law : He.DefD := ⟨("law", none), "law", "law", defArgs s_law, defBody s_law, defScope s_law, [], []⟩
def us : List SupD := []
def fa0 : List He.Fa := [.glo "is_name", .glo "lines_of", .glo "joined", .glo "format_deeds", .glo "line_of_deed", .glo "parse_deeds", .glo "deed_of", .glo "_law_state", .glo "_law_draw", .glo "_law_names", .glo "_law_many", .glo "_law_row", .glo "_law_rows", .glo "_law_parts", .glo "_law_deed", .glo "_law_is_name", .glo "_law_line", .glo "_law_said", .glo "_law_bad", .glo "_law_parsed", .glo "law", .free "isinstance", .free "str", .free "tuple", .free "list", .free "len", .free "all", .free "set", .free "enumerate", .free "range"]
def fa1 : List He.Fa := [.free "abs", .free "int", .free "max", .free "dict", .free "zip", .int "LONGEST_NAME" 8, .glo "ToldError", .glo "InvalidText", .exm "InvalidText" "InvalidText" true]
def fa : List He.Fa := fa0 ++ (fa1)
def fn0 : List He.DefD := [D_is_name, D_InvalidText_init, D_lines_of, D_joined, D_format_deeds, D_line_of_deed, D_parse_deeds, D_deed_of, D_law_state, D_law_draw, D_law_names, D_law_many, D_law_row, D_law_rows, D_law_parts, D_law_deed, D_law_is_name, D_law_line, D_law_said, D_law_bad, D_law_parsed, D_law]
def fn : List He.DefD := fn0
def ts : List He.Tab := []
def vt : List (Str × List (Str × He.Dv)) := []
def xs : List (Str × Str) := [("InvalidText", "line")]
def ex (K : PySem.W.Frag) : Bool := (vt.all fun t => He.valsB K (He.ga K t.1) t.2) && xs.all fun q => excB K q.1 q.2
theorem fun_of {K : PySem.W.Frag} {x qual : Str} {st : Stmt} {f : Addr} (h : ∃ fd, FunD K x qual (defArgs st) (defBody st) (defScope st) [] [] f fd) : ∃ fd, Fun K x qual st f fd := by
  obtain ⟨fd, F⟩ := h
  obtain ⟨oc, od, dV, kV, doc, pm, an, cdv, ct, osl, e, lk, hcd, hD, hK⟩ := F.ex
  rcases hD with ⟨_, rfl⟩ | ⟨z, _⟩
  · exact ⟨fd, ⟨oc, od, kV, doc, pm, an, cdv, ct, osl, e, lk, hcd⟩, F.kp⟩
  · exact absurd rfl z
theorem val_of {K : PySem.W.Frag} {t : Str × List (Str × He.Dv)} (h : He.valsB K (He.ga K t.1) t.2 = true) (q : Str × He.Dv) (hq : q ∈ t.2) : ∃ u, PySem.W.nsIn K (He.ga K t.1) q.1 = some (some u) ∧ RelV (q.2.v K) u := He.valsB_ok h hq
theorem kdct_of {K : PySem.W.Frag} {w : World} {a : Addr} {es : Array DictEntry} {n : Nat} {x : Str} {v : V} (l : K.lookup a = some ⟨.type "dict", none, .dict es n, #[]⟩) (y : PySem.W.KeysLit w.params es.toList) (h : ∃ u, PySem.W.nsIn K a x = some (some u) ∧ RelV v u) : KDct K w a x v := by
  obtain ⟨u, h1, h2⟩ := h
  exact ⟨es, n, u, l, y, h1, h2⟩
theorem law_binds {K : PySem.W.Frag} {x qual : Str} {st : Stmt} {f : Addr} {fd : FuncData} {ps : List Str} (F : Fun K x qual st f fd)
    (h : ∀ (kV doc pm : Value) (an : Option Addr) (cdv ct : Value) (us : List Value), us.length = ps.length → bindArgs (PySem.W.fnOf x qual (defArgs st) (defBody st) (defScope st) .none kV doc pm an cdv ct) ⟨us, []⟩ = pure (ps.zip us)) (s : Shared) (us : List Value) (hl : us.length = ps.length) : BindsTo s fd ⟨us, []⟩ (ps.zip us) := by
  obtain ⟨oc, od, kV, doc, pm, an, cdv, ct, osl, rfl, lk, hcd⟩ := F.ex
  exact .of_eq (h kV doc pm an cdv ct us hl)
theorem tops {w : World} {K : PySem.W.Frag} {h : Heap} {mg : Str → Option Value} (X : K.In h) (G : h.Ns mainGlobals mg) (c : SaysU fa fn ts us ex w K) : ∃ T : Tops w K mg, ∀ (s : Shared) (u : Value), BindsTo s T.d_law ⟨[u], []⟩ [("_law_script", u)] := by
  obtain ⟨d_is_name, F_is_name⟩ := fun_of (x := "is_name") (qual := "is_name") (st := s_is_name) (f := He.fAd K ("is_name", none)) (c.t.d.def_ 0 (d := D_is_name) rfl)
  obtain ⟨d_InvalidText_init, F_InvalidText_init⟩ := fun_of (x := "__init__") (qual := "InvalidText.__init__") (st := s_InvalidText_init) (f := He.fAd K ("InvalidText", some "__init__")) (c.t.d.def_ 1 (d := D_InvalidText_init) rfl)
  obtain ⟨d_lines_of, F_lines_of⟩ := fun_of (x := "lines_of") (qual := "lines_of") (st := s_lines_of) (f := He.fAd K ("lines_of", none)) (c.t.d.def_ 2 (d := D_lines_of) rfl)
  obtain ⟨d_joined, F_joined⟩ := fun_of (x := "joined") (qual := "joined") (st := s_joined) (f := He.fAd K ("joined", none)) (c.t.d.def_ 3 (d := D_joined) rfl)
  obtain ⟨d_format_deeds, F_format_deeds⟩ := fun_of (x := "format_deeds") (qual := "format_deeds") (st := s_format_deeds) (f := He.fAd K ("format_deeds", none)) (c.t.d.def_ 4 (d := D_format_deeds) rfl)
  obtain ⟨d_line_of_deed, F_line_of_deed⟩ := fun_of (x := "line_of_deed") (qual := "line_of_deed") (st := s_line_of_deed) (f := He.fAd K ("line_of_deed", none)) (c.t.d.def_ 5 (d := D_line_of_deed) rfl)
  obtain ⟨d_parse_deeds, F_parse_deeds⟩ := fun_of (x := "parse_deeds") (qual := "parse_deeds") (st := s_parse_deeds) (f := He.fAd K ("parse_deeds", none)) (c.t.d.def_ 6 (d := D_parse_deeds) rfl)
  obtain ⟨d_deed_of, F_deed_of⟩ := fun_of (x := "deed_of") (qual := "deed_of") (st := s_deed_of) (f := He.fAd K ("deed_of", none)) (c.t.d.def_ 7 (d := D_deed_of) rfl)
  obtain ⟨d_law_state, F_law_state⟩ := fun_of (x := "_law_state") (qual := "_law_state") (st := s_law_state) (f := He.fAd K ("_law_state", none)) (c.t.d.def_ 8 (d := D_law_state) rfl)
  obtain ⟨d_law_draw, F_law_draw⟩ := fun_of (x := "_law_draw") (qual := "_law_draw") (st := s_law_draw) (f := He.fAd K ("_law_draw", none)) (c.t.d.def_ 9 (d := D_law_draw) rfl)
  obtain ⟨d_law_names, F_law_names⟩ := fun_of (x := "_law_names") (qual := "_law_names") (st := s_law_names) (f := He.fAd K ("_law_names", none)) (c.t.d.def_ 10 (d := D_law_names) rfl)
  obtain ⟨d_law_many, F_law_many⟩ := fun_of (x := "_law_many") (qual := "_law_many") (st := s_law_many) (f := He.fAd K ("_law_many", none)) (c.t.d.def_ 11 (d := D_law_many) rfl)
  obtain ⟨d_law_row, F_law_row⟩ := fun_of (x := "_law_row") (qual := "_law_row") (st := s_law_row) (f := He.fAd K ("_law_row", none)) (c.t.d.def_ 12 (d := D_law_row) rfl)
  obtain ⟨d_law_rows, F_law_rows⟩ := fun_of (x := "_law_rows") (qual := "_law_rows") (st := s_law_rows) (f := He.fAd K ("_law_rows", none)) (c.t.d.def_ 13 (d := D_law_rows) rfl)
  obtain ⟨d_law_parts, F_law_parts⟩ := fun_of (x := "_law_parts") (qual := "_law_parts") (st := s_law_parts) (f := He.fAd K ("_law_parts", none)) (c.t.d.def_ 14 (d := D_law_parts) rfl)
  obtain ⟨d_law_deed, F_law_deed⟩ := fun_of (x := "_law_deed") (qual := "_law_deed") (st := s_law_deed) (f := He.fAd K ("_law_deed", none)) (c.t.d.def_ 15 (d := D_law_deed) rfl)
  obtain ⟨d_law_is_name, F_law_is_name⟩ := fun_of (x := "_law_is_name") (qual := "_law_is_name") (st := s_law_is_name) (f := He.fAd K ("_law_is_name", none)) (c.t.d.def_ 16 (d := D_law_is_name) rfl)
  obtain ⟨d_law_line, F_law_line⟩ := fun_of (x := "_law_line") (qual := "_law_line") (st := s_law_line) (f := He.fAd K ("_law_line", none)) (c.t.d.def_ 17 (d := D_law_line) rfl)
  obtain ⟨d_law_said, F_law_said⟩ := fun_of (x := "_law_said") (qual := "_law_said") (st := s_law_said) (f := He.fAd K ("_law_said", none)) (c.t.d.def_ 18 (d := D_law_said) rfl)
  obtain ⟨d_law_bad, F_law_bad⟩ := fun_of (x := "_law_bad") (qual := "_law_bad") (st := s_law_bad) (f := He.fAd K ("_law_bad", none)) (c.t.d.def_ 19 (d := D_law_bad) rfl)
  obtain ⟨d_law_parsed, F_law_parsed⟩ := fun_of (x := "_law_parsed") (qual := "_law_parsed") (st := s_law_parsed) (f := He.fAd K ("_law_parsed", none)) (c.t.d.def_ 20 (d := D_law_parsed) rfl)
  obtain ⟨d_law, F_law⟩ := fun_of (x := "law") (qual := "law") (st := s_law) (f := He.fAd K ("law", none)) (c.t.d.def_ 21 (d := D_law) rfl)
  have E_InvalidText := excB_ok (List.all_eq_true.mp (He.ba c.more).2 ("InvalidText", "line") (by simp [xs]))
  obtain ⟨u_LONGEST_NAME, e_LONGEST_NAME⟩ := He.int_ok X G (c.t.d.fact 35 (f := .int "LONGEST_NAME" 8) rfl)
  exact ⟨{
    z_isinstance := He.free_ok X G (c.t.d.fact 21 (f := .free "isinstance") rfl)
    z_str := He.free_ok X G (c.t.d.fact 22 (f := .free "str") rfl)
    z_tuple := He.free_ok X G (c.t.d.fact 23 (f := .free "tuple") rfl)
    z_list := He.free_ok X G (c.t.d.fact 24 (f := .free "list") rfl)
    z_len := He.free_ok X G (c.t.d.fact 25 (f := .free "len") rfl)
    z_all := He.free_ok X G (c.t.d.fact 26 (f := .free "all") rfl)
    z_set := He.free_ok X G (c.t.d.fact 27 (f := .free "set") rfl)
    z_enumerate := He.free_ok X G (c.t.d.fact 28 (f := .free "enumerate") rfl)
    z_range := He.free_ok X G (c.t.d.fact 29 (f := .free "range") rfl)
    z_abs := He.free_ok X G (c.t.d.fact 30 (f := .free "abs") rfl)
    z_int := He.free_ok X G (c.t.d.fact 31 (f := .free "int") rfl)
    z_max := He.free_ok X G (c.t.d.fact 32 (f := .free "max") rfl)
    z_dict := He.free_ok X G (c.t.d.fact 33 (f := .free "dict") rfl)
    z_zip := He.free_ok X G (c.t.d.fact 34 (f := .free "zip") rfl)
    u_LONGEST_NAME := u_LONGEST_NAME
    c_LONGEST_NAME := e_LONGEST_NAME
    a_is_name := He.fAd K ("is_name", none)
    d_is_name := d_is_name
    F_is_name := F_is_name
    b_is_name := F_is_name.binds (ps := ["value"]) fun _ _ _ _ _ _ us hl => match us, hl with | [_], _ => rfl
    m_is_name := He.glo_ok X G (c.t.d.fact 0 (f := .glo "is_name") rfl)
    a_InvalidText_init := He.fAd K ("InvalidText", some "__init__")
    d_InvalidText_init := d_InvalidText_init
    F_InvalidText_init := F_InvalidText_init
    b_InvalidText_init := F_InvalidText_init.binds (ps := ["self", "line"]) fun _ _ _ _ _ _ us hl => match us, hl with | [_, _], _ => rfl
    a_lines_of := He.fAd K ("lines_of", none)
    d_lines_of := d_lines_of
    F_lines_of := F_lines_of
    b_lines_of := F_lines_of.binds (ps := ["text"]) fun _ _ _ _ _ _ us hl => match us, hl with | [_], _ => rfl
    m_lines_of := He.glo_ok X G (c.t.d.fact 1 (f := .glo "lines_of") rfl)
    a_joined := He.fAd K ("joined", none)
    d_joined := d_joined
    F_joined := F_joined
    b_joined := F_joined.binds (ps := ["lines"]) fun _ _ _ _ _ _ us hl => match us, hl with | [_], _ => rfl
    m_joined := He.glo_ok X G (c.t.d.fact 2 (f := .glo "joined") rfl)
    a_format_deeds := He.fAd K ("format_deeds", none)
    d_format_deeds := d_format_deeds
    F_format_deeds := F_format_deeds
    b_format_deeds := F_format_deeds.binds (ps := ["deeds"]) fun _ _ _ _ _ _ us hl => match us, hl with | [_], _ => rfl
    m_format_deeds := He.glo_ok X G (c.t.d.fact 3 (f := .glo "format_deeds") rfl)
    a_line_of_deed := He.fAd K ("line_of_deed", none)
    d_line_of_deed := d_line_of_deed
    F_line_of_deed := F_line_of_deed
    b_line_of_deed := F_line_of_deed.binds (ps := ["deed"]) fun _ _ _ _ _ _ us hl => match us, hl with | [_], _ => rfl
    m_line_of_deed := He.glo_ok X G (c.t.d.fact 4 (f := .glo "line_of_deed") rfl)
    a_parse_deeds := He.fAd K ("parse_deeds", none)
    d_parse_deeds := d_parse_deeds
    F_parse_deeds := F_parse_deeds
    b_parse_deeds := F_parse_deeds.binds (ps := ["text"]) fun _ _ _ _ _ _ us hl => match us, hl with | [_], _ => rfl
    m_parse_deeds := He.glo_ok X G (c.t.d.fact 5 (f := .glo "parse_deeds") rfl)
    a_deed_of := He.fAd K ("deed_of", none)
    d_deed_of := d_deed_of
    F_deed_of := F_deed_of
    b_deed_of := F_deed_of.binds (ps := ["items"]) fun _ _ _ _ _ _ us hl => match us, hl with | [_], _ => rfl
    m_deed_of := He.glo_ok X G (c.t.d.fact 6 (f := .glo "deed_of") rfl)
    a__law_state := He.fAd K ("_law_state", none)
    d__law_state := d_law_state
    F__law_state := F_law_state
    b__law_state := F_law_state.binds (ps := ["_law_script"]) fun _ _ _ _ _ _ us hl => match us, hl with | [_], _ => rfl
    m__law_state := He.glo_ok X G (c.t.d.fact 7 (f := .glo "_law_state") rfl)
    a__law_draw := He.fAd K ("_law_draw", none)
    d__law_draw := d_law_draw
    F__law_draw := F_law_draw
    b__law_draw := F_law_draw.binds (ps := ["_law_state_here", "_law_many_here"]) fun _ _ _ _ _ _ us hl => match us, hl with | [_, _], _ => rfl
    m__law_draw := He.glo_ok X G (c.t.d.fact 8 (f := .glo "_law_draw") rfl)
    a__law_names := He.fAd K ("_law_names", none)
    d__law_names := d_law_names
    F__law_names := F_law_names
    b__law_names := F_law_names.binds (ps := ["_law_state_here", "_law_many_here"]) fun _ _ _ _ _ _ us hl => match us, hl with | [_, _], _ => rfl
    m__law_names := He.glo_ok X G (c.t.d.fact 9 (f := .glo "_law_names") rfl)
    a__law_many := He.fAd K ("_law_many", none)
    d__law_many := d_law_many
    F__law_many := F_law_many
    b__law_many := F_law_many.binds (ps := ["_law_rows_here"]) fun _ _ _ _ _ _ us hl => match us, hl with | [_], _ => rfl
    m__law_many := He.glo_ok X G (c.t.d.fact 10 (f := .glo "_law_many") rfl)
    a__law_row := He.fAd K ("_law_row", none)
    d__law_row := d_law_row
    F__law_row := F_law_row
    b__law_row := F_law_row.binds (ps := ["_law_state_here", "_law_shape"]) fun _ _ _ _ _ _ us hl => match us, hl with | [_, _], _ => rfl
    m__law_row := He.glo_ok X G (c.t.d.fact 11 (f := .glo "_law_row") rfl)
    a__law_rows := He.fAd K ("_law_rows", none)
    d__law_rows := d_law_rows
    F__law_rows := F_law_rows
    b__law_rows := F_law_rows.binds (ps := ["_law_state_here", "_law_shape", "_law_depth", "_law_room"]) fun _ _ _ _ _ _ us hl => match us, hl with | [_, _, _, _], _ => rfl
    m__law_rows := He.glo_ok X G (c.t.d.fact 12 (f := .glo "_law_rows") rfl)
    a__law_parts := He.fAd K ("_law_parts", none)
    d__law_parts := d_law_parts
    F__law_parts := F_law_parts
    b__law_parts := F_law_parts.binds (ps := ["_law_state_here", "_law_sizes", "_law_peeks", "_law_writes"]) fun _ _ _ _ _ _ us hl => match us, hl with | [_, _, _, _], _ => rfl
    m__law_parts := He.glo_ok X G (c.t.d.fact 13 (f := .glo "_law_parts") rfl)
    a__law_deed := He.fAd K ("_law_deed", none)
    d__law_deed := d_law_deed
    F__law_deed := F_law_deed
    b__law_deed := F_law_deed.binds (ps := ["_law_state_here", "_law_parts_here"]) fun _ _ _ _ _ _ us hl => match us, hl with | [_, _], _ => rfl
    m__law_deed := He.glo_ok X G (c.t.d.fact 14 (f := .glo "_law_deed") rfl)
    a__law_is_name := He.fAd K ("_law_is_name", none)
    d__law_is_name := d_law_is_name
    F__law_is_name := F_law_is_name
    b__law_is_name := F_law_is_name.binds (ps := ["_law_value"]) fun _ _ _ _ _ _ us hl => match us, hl with | [_], _ => rfl
    m__law_is_name := He.glo_ok X G (c.t.d.fact 15 (f := .glo "_law_is_name") rfl)
    a__law_line := He.fAd K ("_law_line", none)
    d__law_line := d_law_line
    F__law_line := F_law_line
    b__law_line := F_law_line.binds (ps := ["_law_deed_here"]) fun _ _ _ _ _ _ us hl => match us, hl with | [_], _ => rfl
    m__law_line := He.glo_ok X G (c.t.d.fact 16 (f := .glo "_law_line") rfl)
    a__law_said := He.fAd K ("_law_said", none)
    d__law_said := d_law_said
    F__law_said := F_law_said
    b__law_said := F_law_said.binds (ps := ["_law_line_here"]) fun _ _ _ _ _ _ us hl => match us, hl with | [_], _ => rfl
    m__law_said := He.glo_ok X G (c.t.d.fact 17 (f := .glo "_law_said") rfl)
    a__law_bad := He.fAd K ("_law_bad", none)
    d__law_bad := d_law_bad
    F__law_bad := F_law_bad
    b__law_bad := F_law_bad.binds (ps := ["_law_state_here", "_law_line_here", "_law_name"]) fun _ _ _ _ _ _ us hl => match us, hl with | [_, _, _], _ => rfl
    m__law_bad := He.glo_ok X G (c.t.d.fact 18 (f := .glo "_law_bad") rfl)
    a__law_parsed := He.fAd K ("_law_parsed", none)
    d__law_parsed := d_law_parsed
    F__law_parsed := F_law_parsed
    b__law_parsed := F_law_parsed.binds (ps := ["_law_text"]) fun _ _ _ _ _ _ us hl => match us, hl with | [_], _ => rfl
    m__law_parsed := He.glo_ok X G (c.t.d.fact 19 (f := .glo "_law_parsed") rfl)
    a_law := He.fAd K ("law", none)
    d_law := d_law
    F_law := F_law
    b_law := F_law.binds (ps := ["_law_script"]) fun _ _ _ _ _ _ us hl => match us, hl with | [_], _ => rfl
    m_law := He.glo_ok X G (c.t.d.fact 20 (f := .glo "law") rfl)
    c_ToldError := He.ga K "ToldError"
    m_ToldError := He.glo_ok X G (c.t.d.fact 36 (f := .glo "ToldError") rfl)
    c_InvalidText := He.ga K "InvalidText"
    m_InvalidText := He.glo_ok X G (c.t.d.fact 37 (f := .glo "InvalidText") rfl)
    x_InvalidText := E_InvalidText.1
    xi_InvalidText := E_InvalidText.2.1
    xt_InvalidText := E_InvalidText.2.2.1
    n_InvalidText_line := E_InvalidText.2.2.2.1
    xa_InvalidText := E_InvalidText.2.2.2.2.ga
    xg_InvalidText := E_InvalidText.2.2.2.2.gg
    xh_InvalidText := E_InvalidText.2.2.2.2.hdC
    xe_InvalidText := He.exm_ok (c.t.d.fact 38 (f := .exm "InvalidText" "InvalidText" true) rfl)
  }, fun s u => law_binds (ps := ["_law_script"]) F_law (fun _ _ _ _ _ _ us hl => match us, hl with | [_], _ => rfl) s [u] rfl⟩
abbrev R : PySem.W.OpenRow := PySem.W.OpenLaw.row PySem.Challenge.rw_toldonward_k41_deed_texts
def as_ : List Addr := [3, 29, 28, 49, 48, 19, 18, 46, 45, 58, 57, 63, 62, 68, 67, 75, 74, 82, 81, 87, 86, 94, 93, 101, 100, 108, 107, 115, 114, 122, 121, 129, 128, 136, 135, 141, 140, 146, 145, 153, 152, 158, 157, 165, 164, 172, 171, 177, 176]
abbrev hk : PySem.W.Hook := hookV as_ fa fn ts us ex
def ob (s : PySem.W.SharedT) : AlU := obsV as_ fa fn ts us ex (HandSHeadRun.getT s)
theorem ob_eq (s : PySem.W.SharedT) : ob s = hk.obs s.abs := obsV_eq (HandSHeadRun.getT_eq s)
def loose0 : List Str := ["LONGEST_NAME", "is_name", "ToldError", "InvalidText", "lines_of", "joined", "format_deeds", "line_of_deed", "parse_deeds", "deed_of", "_law_state", "_law_draw", "_law_names", "_law_many", "_law_row", "_law_rows", "_law_parts", "_law_deed", "_law_is_name", "_law_line", "_law_said", "_law_bad", "_law_parsed"]
def loose : List Str := loose0
end K41
namespace K41
open PySem PySem.Spec PyProof.Rows L2 Td
abbrev RunOk (w : World) : Prop := HandSHeadRun.RunEq R (PySem.W.view R.prog [27]) hk ob 8000 loose w
theorem run_f (w : World) : RunOk (w.withFollow "special-get-raises" false) := by
  intro os
  kernel_rfl
theorem run_t (w : World) : RunOk (w.withFollow "special-get-raises" true) := by
  intro os
  kernel_rfl
theorem run (w : World) : HandSHeadRun.RunEq R (PySem.W.view R.prog [27]) hk ob 8000 loose w := PySem.W.byRow2 "special-get-raises" (P := RunOk) run_f run_t w
end K41
open PySem PySem.W PySem.Calls PyProof.Rows
set_option maxRecDepth 100000 in
set_option maxHeartbeats 0 in
theorem PySem.Challenge.cw_toldonward_k41_deed_texts_holds : PySem.Challenge.rw_toldonward_k41_deed_texts.Holds := by
  w_on; o_law
  refine HandSHeadRun.head_any (r := OpenLaw.row PySem.Challenge.rw_toldonward_k41_deed_texts) (q := view (OpenLaw.row PySem.Challenge.rw_toldonward_k41_deed_texts).prog [27]) (H := K41.hk) (ob := K41.ob) (M := 8000) (loose := K41.loose) (d := HandSHeadRun.topDef (OpenLaw.row PySem.Challenge.rw_toldonward_k41_deed_texts).prog 27) (kwd := []) K41.ob_eq
    (by kernel_rfl) (fun s => by kernel_rfl) K41.run (by kernel_rfl) (by kernel_rfl) (by kernel_rfl) (by rfl) (by first | assumption | decide +kernel) (by decide +kernel) ⟨rfl, rfl, rfl, rfl, rfl, by decide +kernel⟩ ?hw ?hc
  case hw => w_witness2
  case hc =>
    refine L2.walk_ofE (l := PySem.Challenge.rw_toldonward_k41_deed_texts) (n := 63) (k := 17) (x := "_law_script") (CX := L2.CX0) rfl (by decide) (by kernel_rfl) ⟨rfl, by decide, by decide⟩ ?F (fun _ _ _ _ z => z)
    intro w mg fa h Y G hmg0
    obtain ⟨K, KX, c⟩ := Y
    have hmg : mg ("law" : PySem.Str) = some (.ref fa) := by
      have e : (HandSHeadRun.topDef (OpenLaw.row PySem.Challenge.rw_toldonward_k41_deed_texts).prog 27).name = ("law" : PySem.Str) := by kernel_rfl
      rw [← e]
      exact hmg0
    obtain ⟨T, hb⟩ := K41.tops KX G c
    have e := hmg.symm.trans T.m_law
    cases e
    exact ⟨K, T.d_law, K41.spLaw K, KX, hb, fun H a ns hl _ hS => ⟨a, ns, rfl, hS, hl, fun _ => rfl⟩, fun base _ _ => K41.law_of T⟩
