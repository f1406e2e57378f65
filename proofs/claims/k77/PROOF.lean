import PyProof.Rows.All
import Wide.All
import OpenK.AllK
import Wide.FinOn
import HandS.ForMost
import HandS.ForExc
import HandS.SetKeys
import HandS.Strs
import HandS.Set
import HandS.More
import HandS.Wide
import HandS.IsInst
import HandS.ExcInit
import HandS.CallLocal
import HandS.TupAny
import HandS.Codes
import KE.GoesEnum
import HandS.WrittenGet
import HandS.Nested
import HandS.HeadWalk
import KE.KSuper
import HandS.ExcField
import HandS.TryMany
import HandS.OwnEq
import KE.KExcIs
import HandS.ExcIs
import HandS.ExcOwn
import PyProof.InstNe
import HandS.Zip
import HandS.HeadHook4
import HandS.HeadEnd
import HandS.Head2
import HandS.DeepEq
import PyProof.EqLayable
import HandS.Walk
import HandS.TupLe
import PySem.Challenge.RW_toldonward_k77_whole_changes_made
set_option Elab.async false
set_option maxRecDepth 100000
set_option maxHeartbeats 0
set_option linter.all false
/-! Own rules beside the hand layer: for any program. -/
namespace TdSet
open PySem PySem.Spec PyProof.Rows SS
/-- how many different ones stand among the first i -/
def dcnt (xs : List Str) : Nat → Nat
  | 0 => 0
  | i + 1 => if (xs.take i).any (· == xs.getD i Str.empty) = true then dcnt xs i else dcnt xs i + 1
theorem dcnt_le (xs : List Str) : ∀ i, dcnt xs i ≤ i
  | 0 => Nat.le_refl _
  | i + 1 => by
    have := dcnt_le xs i
    unfold dcnt
    split <;> omega
theorem dcnt_full {xs : List Str} : ∀ {i : Nat}, i ≤ xs.length → dcnt xs i = i → (xs.take i).Nodup
  | 0, _, _ => by simp
  | i + 1, hi, h => by
    have hl := dcnt_le xs i
    unfold dcnt at h
    split at h
    · omega
    · rename_i hn
      have ih := dcnt_full (xs := xs) (i := i) (by omega) (by omega)
      have hx : i < xs.length := by omega
      rw [List.take_succ_eq_append_getElem hx]
      refine List.nodup_append.mpr ⟨ih, by simp, ?_⟩
      intro a ha b hb hab
      have e : b = xs[i] := by simpa using hb
      apply hn
      refine List.any_eq_true.mpr ⟨a, ha, ?_⟩
      rw [hab, e, List.getD_eq_getElem?_getD, List.getElem?_eq_getElem hx]
      simp
theorem dcnt_nodup {xs : List Str} : ∀ {i : Nat}, i ≤ xs.length → (xs.take i).Nodup → dcnt xs i = i
  | 0, _, _ => rfl
  | i + 1, hi, h => by
    have hx : i < xs.length := by omega
    rw [List.take_succ_eq_append_getElem hx] at h
    obtain ⟨h1, _, h3⟩ := List.nodup_append.mp h
    have ih := dcnt_nodup (xs := xs) (i := i) (by omega) h1
    unfold dcnt
    rw [if_neg, ih]
    intro hh
    obtain ⟨a, ha, hb⟩ := List.any_eq_true.mp hh
    rw [List.getD_eq_getElem?_getD, List.getElem?_eq_getElem hx] at hb
    exact h3 a ha xs[i] (by simp) (by simpa using hb)
/-- the set at S has met the first i texts -/
def Met (prog : Program) (w : World) (S : Addr) (xs : List Str) (i : Nat) (h : Heap) : Prop := h.SetOf (PySem.strKind prog w) S (fun z => (xs.take i).any (· == z)) (dcnt xs i)
theorem Met.move {prog : Program} {w : World} {S : Addr} {xs : List Str} {i : Nat} {h h' : Heap} (m : Met prog w S xs i h) (k : ∀ o, h.get? S = some o → h'.get? S = some o) : Met prog w S xs i h' := by
  obtain ⟨o, es, ep, tb, e, r⟩ := m
  exact ⟨o, es, ep, tb, k o e, r⟩
/-- one text more -/
theorem Met.more {prog : Program} {w : World} {S : Addr} {xs : List Str} {i : Nat} {h : Heap} {z : Str} (hz : xs[i]? = some z)
    (m : h.SetOf (PySem.strKind prog w) S (fun y => (xs.take i).any (· == y) || decide (y = z)) (if (xs.take i).any (· == z) = true then dcnt xs i else dcnt xs i + 1)) : Met prog w S xs (i + 1) h := by
  have e : xs.take (i + 1) = xs.take i ++ [z] := by rw [List.take_add_one, hz]; rfl
  refine SetOf_congr m (fun y => ?_) ?_
  · rw [e, List.any_append]
    congr 1
    by_cases q : y = z
    · rw [q]; simp
    · have : ¬ z = y := fun h => q h.symm
      simp [q, this]
  · show _ = (if (xs.take i).any (· == xs.getD i Str.empty) = true then dcnt xs i else dcnt xs i + 1)
    rw [List.getD_eq_getElem?_getD, hz]
    rfl
section
variable {prog : Program} {w : World} {A : Around} {R : Result → Shared → Prop} {I S : Addr} {fp wr : List Addr} {G : Array GenState → Array GenState → Prop} {i : Nat} {P : Nat → Value → Prop} {St : Nat → Shared → Prop} {xs : List Str} {s : Shared}
/-- an iterator whose item i is the text i of xs -/
structure Turns (prog : Program) (w : World) (A : Around) (I : Addr) (fp wr : List Addr) (G : Array GenState → Array GenState → Prop) (xs : List Str) (P : Nat → Value → Prop) (St : Nat → Shared → Prop) : Prop where
  walks : WalksS prog w A I fp wr G xs.length P St
  texts : ∀ i v, P i v → ∃ z t, xs[i]? = some z ∧ v = .str z t
/-- the loop's code, one round of it -/
theorem round_of (h : wpAny (model prog w) A.in1 (Builtin.«set.update.loop» ⟨[.ref S, .ref I], []⟩) (fun fin s' => match fin with | .done f => R (.ok f) s' | .again c => c.quiet = true ∧ codeAny (model prog w) A c R s') (fun e s' => R (.error e) s') s) :
    codeAny (model prog w) A (.builtin "set.update.loop" ⟨[.ref S, .ref I], []⟩) R s :=
  codeAny_builtin PyProof.Rows.F.entry_set_update_loop (by rw [Around.under_plainId PyProof.Rows.F.plain_set_update_loop _]; exact h)
theorem last_round (W : Turns prog w A.in1 I fp wr G xs P St) (ns : S ∉ wr) (hst : St xs.length s) (hS : Met prog w S xs xs.length s.heap)
    (fin : ∀ s', Moved wr G s s' → Met prog w S xs xs.length s'.heap → R (.ok (.ret .none)) s') : codeAny (model prog w) A (.builtin "set.update.loop" ⟨[.ref S, .ref I], []⟩) R s :=
  round_of (wpAny_bind (W.walks.done s _ _ hst fun s' hm => wpAny_pure (fin s' hm (hS.move fun o e => hm.heap S o ns e))))
theorem next_round (W : Turns prog w A.in1 I fp wr G xs P St) (hf : S ∉ fp) (hn : xs.length < 4000) (hi : i < xs.length) (hst : St i s) (hS : Met prog w S xs i s.heap)
    (go : ∀ s', St (i + 1) s' → Met prog w S xs (i + 1) s'.heap → Moved (S :: wr) G s s' → codeAny (model prog w) A (.builtin "set.update.loop" ⟨[.ref S, .ref I], []⟩) R s') :
    codeAny (model prog w) A (.builtin "set.update.loop" ⟨[.ref S, .ref I], []⟩) R s := by
  refine round_of (wpAny_bind (W.walks.item i s _ _ hi hst fun v s1 hv st1 m1 => ?_))
  obtain ⟨z, t, hz, rfl⟩ := W.texts i v hv
  have hd := dcnt_le xs i
  have S1 := hS.move fun o e => m1.heap S o (fun h => hf (W.walks.sub _ h)) e
  refine wpAny_bind (wpAny_holding (wpAny_holding (wpAny_bind ((PySem.strKind prog w).pyHash (k := z) (strKind_is _ _ _ _) (wpAny_setAddHashed_of (knd := PySem.strKind prog w) (s := { s1 with toks := s1.toks + 1 }) (strKind_is _ _ _ _) rfl S1 (by unfold scanBound; omega) fun h2 sb S2 => ?_)))))
  have keep : ∀ b o, b ≠ S → s1.heap.get? b = some o → h2.get? b = some o := fun b o nb e => by rw [sb.2 b nb]; exact e
  refine wpAny_pure ⟨plainId_quiet PyProof.Rows.F.plain_set_update_loop _, go _ (W.walks.frame _ s1 _ _ st1 (Nat.le_succ _) fun b hb o e => keep b o (fun q => hf (q ▸ hb)) e) (Met.more hz S2) ?_⟩
  exact (m1.mono fun b hb => List.mem_cons_of_mem _ hb).then_heap (Nat.le_succ _) fun b o hb e => keep b o (fun q => hb (q ▸ List.mem_cons_self)) e
theorem rounds (W : Turns prog w A.in1 I fp wr G xs P St) (hf : S ∉ fp) (hn : xs.length < 4000) : ∀ (left i : Nat) (s : Shared), i + left = xs.length → St i s → Met prog w S xs i s.heap →
    (∀ s', Moved (S :: wr) G s s' → Met prog w S xs xs.length s'.heap → R (.ok (.ret .none)) s') → codeAny (model prog w) A (.builtin "set.update.loop" ⟨[.ref S, .ref I], []⟩) R s
  | 0, i, s, e, st, m, fin => by
    have e : i = xs.length := e
    subst e
    exact last_round W (fun h => hf (W.walks.sub _ h)) st m fun s' mv m' => fin s' (mv.mono fun b hb => List.mem_cons_of_mem _ hb) m'
  | left + 1, i, s, e, st, m, fin =>
    next_round W hf hn (by omega) st m fun s1 st1 m1 mv1 => rounds W hf hn left (i + 1) s1 (by omega) st1 m1 fun s2 mv2 m2 => fin s2 (Moved.trans W.walks.gtrans mv1 mv2) m2
end
section
variable {prog : Program} {w : World} {A : Around} {E : Value → Shared → Prop} {s : Shared}
/-- the new set's own beginning: it takes the tuple's texts -/
theorem init_texts {R : Result → Shared → Prop} {S l : Addr} {o : Obj} {items : Array Value} {xs : List Str} {led : Bool} (hh : A.handled = none) (hS : s.heap.get? S = some { cls := .type "set", dict := none, data := .set #[] 0 (.fresh 0 0 led) })
    (ho : s.heap.get? l = some o) (hc : o.cls = .type "tuple") (hd : ∃ nl, o.data = .seq items nl) (hne : l ≠ S) (hi : PyProof.Rows.StrsAre items.toList xs) (hn : xs.length < 4000)
    (fin : ∀ (h' : Heap) (tk : Nat), Met prog w S xs xs.length h' → (∀ b u, b ≠ S → s.heap.get? b = some u → h'.get? b = some u) → R (.ok (.ret .none)) { s with heap := h', toks := tk }) :
    wpAny (model prog w) A.in1 (Builtin.«set.__init__» ⟨[.ref S, .ref l], []⟩) (fun fin s' => match fin with | .done f => R (.ok f) s' | .again c => c.quiet = true ∧ codeAny (model prog w) A c R s') (fun e s' => R (.error e) s') s := by
  have ht : s.heap.IsTuple l items := let ⟨nl, e⟩ := hd; ⟨o, ho, hc, nl, e⟩
  have q1 : s.TypeIs (.ref l) "tuple" := ⟨o, ho, hc⟩
  have q2 := PySem.F.sub_tuple_set
  have q3 := PySem.F.sub_tuple_frozenset
  have q4 : (Value.type "tuple" == Value.type "dict") = false := by decide
  unfold Builtin.«set.__init__» noKeywords Builtin.Frozenset.updateFrom
  generalize ePI : pyIter = PI
  wp_walk
  subst ePI
  refine wpAny_pyIter_tuple ht (wpAny_bind (wpAny_runValue ?_))
  have sz : (s.heap.push { cls := .type "tuple_iterator", data := .fields #[.ref l, .int 0 0] }).objs.size = s.heap.objs.size + 1 := Heap.size_push ..
  have lS : S < s.heap.objs.size := Heap.lt_size hS
  have ll : l < s.heap.objs.size := Heap.lt_size ho
  have len : xs.length = items.size := by rw [← StrsAre.len_eq hi, Array.length_toList]
  have W0 := (Walks.tuple (prog := prog) (w := w) (A := A.in1.in1) (by simpa using hh) s.heap.objs.size l (Nat.ne_of_lt ll) items).toS
  rw [← len] at W0
  have nf : S ∉ [s.heap.objs.size, l] := fun m => by
    rcases List.mem_cons.mp m with e | e
    · exact absurd (e ▸ lS) (Nat.lt_irrefl _)
    · exact hne (List.mem_singleton.mp e).symm
  have M0 : Met prog w S xs 0 (s.heap.push { cls := .type "tuple_iterator", data := .fields #[.ref l, .int 0 0] }) :=
    PyProof.Rows.SetOf_congr ((PyProof.Rows.setObjOf_fresh (knd := PySem.strKind prog w) led).setOf (Heap.get?_push_of_some _ hS) (by unfold scanBound; omega)) (fun _ => rfl) rfl
  refine rounds ⟨W0, fun i v hv => ?_⟩ nf hn xs.length 0 { s with heap := s.heap.push { cls := .type "tuple_iterator", data := .fields #[.ref l, .int 0 0] } } (Nat.zero_add _) ⟨⟨_, Heap.get?_push_size _ rfl, rfl, rfl⟩, ht.push _⟩ M0 fun s2 mv m => ?_
  · obtain ⟨t, e⟩ := strs_at hi i v (by rw [Array.getElem?_toList]; exact hv)
    have hx : i < xs.length := by rw [len]; exact (Array.getElem?_eq_some_iff.mp hv).1
    exact ⟨xs[i], t, List.getElem?_eq_getElem hx, by rw [e, List.getD_eq_getElem?_getD, List.getElem?_eq_getElem hx]; rfl⟩
  · obtain ⟨h2, g2, d2, t2, o2⟩ := s2
    cases (show g2 = s.gens from mv.gens)
    cases (show d2 = s.drawn from mv.drawn)
    cases (show o2 = s.os from mv.os)
    refine wpAny_pure (wpAny_pure (fin h2 t2 m fun b u nb e => mv.heap b u (fun q => ?_) (Heap.get?_push_of_some _ e)))
    rcases List.mem_cons.mp q with q | q
    · exact nb q
    · have := Heap.lt_size e
      rw [List.mem_singleton.mp q] at this
      exact Nat.lt_irrefl _ this
end
section
variable {prog : Program} {w : World} {A : Around} {E : Value → Shared → Prop} {s : Shared}
/-- set(x), over what the new set begins with -/
theorem set_by {x : Value} {Q : Value → Shared → Prop} (go : ∀ led : Bool, wpAny (model prog w) A.in1.in1 (Builtin.«set.__init__» ⟨[.ref s.heap.objs.size, x], []⟩)
      (fun fin s' => match fin with | .done f => wants (fun r s2 => r = .none ∧ s2.TypeIs (.ref s.heap.objs.size) "set" ∧ Q (.ref s.heap.objs.size) s2) E (.ok f) s' | .again c => c.quiet = true ∧ codeAny (model prog w) A.in1 c (wants (fun r s2 => r = .none ∧ s2.TypeIs (.ref s.heap.objs.size) "set" ∧ Q (.ref s.heap.objs.size) s2) E) s')
      (fun e s' => wants (fun r s2 => r = .none ∧ s2.TypeIs (.ref s.heap.objs.size) "set" ∧ Q (.ref s.heap.objs.size) s2) E (.error e) s')
      { s with heap := s.heap.push { cls := .type "set", dict := none, data := .set #[] 0 (.fresh 0 0 led) } }) :
    wpAny (model prog w) A (call (.type "set") [x]) Q E s := by
  have k1 := PySem.F.called_set
  obtain ⟨c, tl, k2⟩ := k1.mro
  have k3 := k1.made
  have k4 := k1.sub
  have k5 := k1.notType
  have k6 := k1.canCreate
  have k7 := PySem.F.typeCall_set_1 x
  refine wpAny_call (codeAny_of_tree (wpAny_pure ⟨Code.quiet_builtin _ (by decide +kernel), codeAny_builtin PySem.F.entry_type_call ?_⟩))
  rw [Around.under_plain (weight_type_call_type "set" [x] []) rfl]
  repeat (any_goals (first | assumption | wp_step))
  refine codeAny_mono (code_set_new_1 x (E := E) (Q₁ := fun y s1 => ∃ led : Bool, y = .ref s.heap.objs.size ∧ s1 = { s with heap := s.heap.push { cls := .type "set", dict := none, data := .set #[] 0 (.fresh 0 0 led) } }) fun led => ⟨led, rfl, rfl⟩) fun r s1 hr => ?_
  match r, hr with
  | .error e, hr => exact hr
  | .ok (.ret y), hr =>
    obtain ⟨led, rfl, rfl⟩ := hr
    have k8 := k1.init.lookup
    have k9 := k1.init.bind (.ref s.heap.objs.size)
    have ty : Shared.TypeIs { s with heap := s.heap.push { cls := .type "set", dict := none, data := .set #[] 0 (.fresh 0 0 led) } } (.ref s.heap.objs.size) "set" := ⟨_, Heap.get?_push_size _ rfl, rfl⟩
    repeat (any_goals (first | assumption | wp_step))
    refine codeAny_mono (codeAny_call_builtin k1.init.plain PySem.F.entry_set_init (check_set_init_1 ty (go led))) fun r2 s2 h2 => ?_
    match r2, h2 with
    | .error e, h2 => exact h2
    | .ok (.ret y), h2 =>
      obtain ⟨rfl, ty2, q⟩ := h2
      repeat (any_goals (first | assumption | wp_step))
/-- set(t) of a tuple of texts -/
theorem set_of_texts {l : Addr} {items : Array Value} {xs : List Str} {Q : Value → Shared → Prop} (hh : A.handled = none) (hl : s.heap.IsTuple l items) (hi : PyProof.Rows.StrsAre items.toList xs) (hn : xs.length < 4000)
    (q : ∀ (h' : Heap) (tk : Nat), Met prog w s.heap.objs.size xs xs.length h' → (∀ b u, s.heap.get? b = some u → h'.get? b = some u) → Q (.ref s.heap.objs.size) { s with heap := h', toks := tk }) :
    wpAny (model prog w) A (call (.type "set") [.ref l]) Q E s := by
  obtain ⟨o, ho, hc, hd⟩ := hl
  have lt := Heap.lt_size ho
  refine set_by fun led => init_texts (A := A.in1) (by simpa using hh) (Heap.get?_push_size _ rfl) (Heap.get?_push_of_some _ ho) hc hd (Nat.ne_of_lt lt) hi hn fun h' tk m k => ⟨rfl, ?_, q h' tk m fun b u e => k b u (Nat.ne_of_lt (Heap.lt_size e)) (Heap.get?_push_of_some _ e)⟩
  exact PySem.Heap.SetOf.typeIs (s := { s with heap := h', toks := tk }) m
end
end TdSet
namespace Td
open PySem PySem.Spec PyProof.Rows L2
section
variable {X : Cx}
/-- len(set(t)), t a tuple of texts -/
def tLenSetT (K : PySem.W.Frag) (t : TE) : TE := fun σ H Q => t σ H fun x H1 => ∃ (l : Addr) (xs : List Str), x = .ref l ∧ SqT K H1 l (xs.map V.str) ∧ xs.length < 4000 ∧ Q (.int (TdSet.dcnt xs xs.length : Nat)) H1
theorem pe_lenSetT {a : Expr} {t : TE} {p p2 q pos : Pos} (hc : X.calm = true) (g1 : Gl X "len") (m1 : X.mg "len" = none) (g2 : Gl X "set") (m2 : X.mg "set" = none) (ha : PE X a t)
    (na : starEach [a] X.env = (false, eval a X.env) :: starEach [] X.env := by rfl) (no : starEach [.Call (.Name "set" p2) [a] [] q] X.env = (false, eval (.Call (.Name "set" p2) [a] [] q) X.env) :: starEach [] X.env := by rfl) :
    PE X (.Call (.Name "len" p) [.Call (.Name "set" p2) [a] [] q] [] pos) (tLenSetT X.K t) := by
  refine ⟨fun pins s σ H Q I h => wpAny_Call_Name_kw (ld_blt I g1 m1 boot_len (PyProof.Rows.callWith_builtin1 (PyProof.Rows.args_cons (wpAny_Call_Name_kw (ld_blt I g2 m2 boot_set (PyProof.Rows.callWith_type1 (PyProof.Rows.args_cons (thn (ha.run pins s σ H _ I h) fun v s1 ⟨x, H1, I1, r1, l, xs, ex, hq, hn, k⟩ => PyProof.Rows.args_nil ?_) na) na rfl))) no) no rfl))⟩
  subst ex
  cases r1
  obtain ⟨us, r, tp, _⟩ := I1.tuple hq
  refine TdSet.set_of_texts (I1.ok.hd hc) tp (xs := xs) (by simpa using strsAre_of r) hn fun h' tk m kp => PyProof.Rows.args_nil ?_
  have J : Inv X pins σ H1 { s1 with heap := h', toks := tk } := I1.kept kp
  have dl := TdSet.dcnt_le xs xs.length
  obtain ⟨o, es, ep, tb, e1, e2, e3, _, _, _, e7, e8⟩ := m
  exact call_len_set e1 e2 e3 e7 (by rw [e8]; omega) ⟨.int (TdSet.dcnt xs xs.length : Nat), H1, J.tok _, ⟨_, by rw [e8]⟩, k⟩
end
/-- xs[i] op= e on a list -/
def rGetL : V → V → Hp → VK → Prop := fun o i H Q => ∃ p xs k v, o = .ref p ∧ i = .int k ∧ H p = some (.lst xs) ∧ atI xs k = some v ∧ Q v H
end Td
namespace Td
open PySem PySem.Spec PyProof.Rows L2
section
variable {X : Cx}
/-! ### a written dict, asked by .get -/
def KTab (K : PySem.W.Frag) (w : World) (a : Addr) : Prop :=
  ∃ es n, K.lookup a = some ⟨.type "dict", none, .dict es n, #[]⟩ ∧ PySem.W.KeysLit w.params es.toList ∧ (a == sysModules) = false
def tKGet (K : PySem.W.Frag) (w : World) (td ty : TE) : TE := fun σ H Q => td σ H fun x H1 => ∃ a, x = .ref a ∧ KTab K w a ∧
  ty σ H1 fun y H2 => ∃ z, y = .str z ∧ ((∃ v, KDct K w a z v ∧ Q v H2) ∨ (PySem.W.nsIn K a z = some none ∧ Q .non H2))
theorem pe_kget {o e : Expr} {td ty : TE} {apos cpos : Pos} (ho : PE X o td) (he : PE X e ty) (m : M1 X o "get" apos e cpos) :
    PE X (.Call (.Attribute o "get" apos) [e] [] cpos) (tKGet X.K X.w td ty) := by
  refine ⟨fun pins s σ H Q I h => ?_⟩
  refine wpAny_Call_method m.base m.few m.line PySem.F.plainAttrs_dict PySem.F.slot_dict_get PySem.F.type_dict_get
    (thn (ho.run pins s σ H _ I h) fun u s1 ⟨x, H1, I1, rx, a, ex, ⟨es, n, hl, hk, low⟩, q1⟩ => ?_)
  subst ex
  obtain rfl : u = Value.ref a := rx
  have hm := PySem.W.mapOf_K (prog := X.prog) (w := X.w) I1.kIn hl hk
  refine ⟨hm.typeIs, hm.noDict, ?_⟩
  rw [m.trees]
  refine Calls.callWith_builtin rfl (Calls.evalArgs_plain (Calls.spliced_cons
    (thn (he.run pins s1 σ H1 _ I1 q1) fun iv s2 ⟨y, H2, I2, ry, z, ey, q2⟩ => Calls.spliced_nil ?_)))
  subst ey
  obtain ⟨t, rfl⟩ := ry
  have hm2 := PySem.W.mapOf_K (prog := X.prog) (w := X.w) I2.kIn hl hk
  rcases q2 with ⟨v, ⟨es', n', u0, hl', hk', e0, ru⟩, q⟩ | ⟨e0, q⟩
  · refine call_meetsIn PySem.F.slot_dict_get hm2.typeIs PySem.F.entry_dict_get (PySem.F.args_dict_get_2 _ _)
      (meets_dict_get (strKind X.prog X.w) a (strKind_is X.prog X.w z t) low) ⟨_, hm2, ?_⟩
    have := PySem.W.find_K hl e0
    rw [this]
    exact ⟨v, H2, I2.tok _, ru, q⟩
  · refine call_meetsIn PySem.F.slot_dict_get hm2.typeIs PySem.F.entry_dict_get (PySem.F.args_dict_get_2 _ _)
      (meets_dict_get (strKind X.prog X.w) a (strKind_is X.prog X.w z t) low) ⟨_, hm2, ?_⟩
    have := PySem.W.find_K hl e0
    rw [this]
    exact ⟨.non, H2, I2.tok _, rfl, q⟩

/-! ### xs[i] of a list, by values -/
def rGetLi (K : PySem.W.Frag) : V → V → Hp → VK → Prop := fun o i H Q => ∃ (p : Addr) (xs : List V) (k : Nat) (v : V), o = .ref p ∧ i = .int (k : Nat) ∧ SqL K H p xs ∧ xs[k]? = some v ∧ Q v H
theorem get_list : PGet X (rGetLi X.K) := by
  intro pins s σ H o i ov iv Q I ro ri h
  obtain ⟨p, xs, k, v, rfl, rfl, hp, hv, q⟩ := h
  obtain ⟨its, r, pl, hz⟩ := I.list hp
  obtain rfl : ov = Value.ref p := ro
  obtain ⟨t, rfl⟩ := ri
  obtain ⟨w, ew, rw'⟩ := r.get hv
  have hn := line63
  have hk := (List.getElem?_eq_some_iff.mp hv).1
  have fin : EP X pins σ Q w s := ⟨v, H, I, rw', q⟩
  exact wpAny_getItem_list pl.isList (by omega) (by omega) (by rw [Int.toNat_natCast, List.getElem?_toArray]; exact ew) fin
end
/-! ### enumerate of a tuple -/
def IteT (K : PySem.W.Frag) (a : Addr) : It :=
  ⟨fun i H => ∃ (xs : List V) (x : V), SqT K H a xs ∧ xs[i]? = some x,
   fun i H v H' => ∃ T x, v = .ref T ∧ H T = none ∧ H' = upd H T (.tup [.int (i : Nat), x]) ∧ ∀ xs, SqT K H a xs → xs[i]? = some x,
   fun i H => ∃ xs : List V, SqT K H a xs ∧ xs.length = i⟩
theorem turn_enumT {P : Program} {w : World} {K : PySem.W.Frag} {elts : List Expr} {kk : Nat} {tpos : Pos} (a e it : Addr) :
    Turn P w K (.Tuple elts kk tpos) (IteT K a) [e, it] e
      (fun i h => (∃ old, IsEnum h e it ((i : Nat) : Int) old) ∧ h.IsTupleIter it a i ∧ e ≠ it) where
  mem := by simp
  obj := fun i h st b hb => by
    obtain ⟨⟨old, he⟩, ⟨o, ho, hc, hd⟩, _⟩ := st
    have e' : b = e ∨ b = it := by simpa using hb
    rcases e' with z | z
    · subst z; exact ⟨_, he, fun v q => nomatch q⟩
    · subst z; exact ⟨o, ho, fun v q => by rw [hd] at q; cases q⟩
  keep := fun i h h' st k => by
    obtain ⟨⟨old, he⟩, hi, hne⟩ := st
    exact ⟨⟨old, k e (by simp) _ he⟩, hi.at fun o q => k it (by simp) o q, hne⟩
  item := by
    intro X hP hw hK hc i pins s σ H E I hf st hg
    subst hP hw hK
    obtain ⟨⟨old, he⟩, hit, hne⟩ := st
    obtain ⟨xs, x, hq, hx⟩ := hg
    obtain ⟨its, rv, p, hz⟩ := I.tuple hq
    obtain ⟨u, hu, ru⟩ := rv.get hx
    have hel : e < s.heap.objs.size := Heap.lt_size he
    have hil : it < s.heap.objs.size := by obtain ⟨_, q, _⟩ := hit; exact Heap.lt_size q
    have hai : a ≠ it := fun z => by
      obtain ⟨o1, g1, c1, _⟩ := hit
      obtain ⟨o2, g2, c2, _⟩ := p
      rw [z, g1] at g2
      cases g2
      rw [c1] at c2
      exact absurd c2 (by decide)
    have hae : a ≠ e := fun z => by
      obtain ⟨o2, g2, c2, _⟩ := p
      rw [z, show s.heap.get? e = some _ from he] at g2
      cases g2
      change Value.type "enumerate" = Value.type "tuple" at c2
      exact absurd c2 (by decide)
    have hh : X.A.in1.handled = none := by simp [I.ok.hd hc]
    have D := Draws.tuple (prog := X.prog) (w := X.w) hh it a hai its.toArray
    have hlt : i < its.toArray.size := by
      rw [List.size_toArray, ← rv.length]
      exact (List.getElem?_eq_some_iff.mp hx).1
    refine wpAny_pyNext_enum_itemD D he ⟨hit, p⟩ hlt hne (by simp [hne, Ne.symm hae]) fun y h' tk hy ho hit' hT hsz hk => ?_
    have hyu : y = u := by
      have : its.toArray[i]? = some y := hy
      rw [List.getElem?_toArray, hu] at this
      exact (Option.some.inj this).symm
    subst hyu
    refine ⟨_, rfl, wpAny_letOwnedTupleGo_enum (s := { s with heap := h', toks := tk + 1 }) ho fun h2 he2 sb => ?_⟩
    have hT2 : h2.get? s.heap.objs.size = some { cls := .type "tuple", data := .seq #[.int i tk, y] } :=
      (sb.2 _ (Nat.ne_of_gt hel)).trans hT
    have new : ObjOk X.prog X.w (upd H s.heap.objs.size (.tup [.int (i : Nat), x])) h2 s.heap.objs.size (.tup [.int (i : Nat), x]) :=
      ⟨by show 2 ≤ sizeLine; decide, [.int i tk, y], .cons ⟨_, rfl⟩ (.cons ru .nil), ⟨_, hT2, rfl, _, rfl⟩⟩
    have I1 : L2.Inv X pins σ (upd H s.heap.objs.size (.tup [.int (i : Nat), x])) { s with heap := h2, toks := tk + 1 } :=
      I.turnedNew (ch := [e, it]) (fun b ob hb q => (sb.2 b (fun z => hb (by simp [z]))).trans
        (hk b ob (fun z => hb (by simp [z])) (fun z => hb (by simp [z])) q)) hf (Nat.le_refl _) new
    refine ⟨.ref s.heap.objs.size, _, I1, rfl, ⟨_, x, rfl, I.hok.fresh (Nat.le_refl _), rfl, fun ys hy => by rw [I.tuple_inj hy hq]; exact hx⟩,
      ⟨⟨y, ?_⟩, hit'.1.at fun o q => (sb.2 it (Ne.symm hne)).trans q, hne⟩, fun b hb => ?_⟩
    · have e1 : ((i + 1 : Nat) : Int) = (i : Int) + 1 := by omega
      rw [e1]; exact he2
    · have hb' : b < s.heap.objs.size := by
        have e' : b = e ∨ b = it := by simpa using hb
        rcases e' with z | z
        · subst z; exact hel
        · subst z; exact hil
      rw [upd_ne (Nat.ne_of_lt hb')]
      exact (hf b hb).1
  done := by
    intro X hP hw hK hc i pins s σ H E I hf st hg
    subst hP hw hK
    obtain ⟨⟨old, he⟩, hit, hne⟩ := st
    obtain ⟨xs, hq, hx⟩ := hg
    obtain ⟨its, rv, p, hz⟩ := I.tuple hq
    obtain ⟨f0, f1, f2, f3, f4, f5⟩ := hf it (by simp)
    have hai : a ≠ it := fun z => by
      obtain ⟨o1, g1, c1, _⟩ := hit
      obtain ⟨o2, g2, c2, _⟩ := p
      rw [z, g1] at g2
      cases g2
      rw [c1] at c2
      exact absurd c2 (by decide)
    have hh : X.A.in1.handled = none := by simp [I.ok.hd hc]
    have D := Draws.tuple (prog := X.prog) (w := X.w) hh it a hai its.toArray
    have hn : its.toArray.size = i := by rw [List.size_toArray, ← rv.length]; exact hx
    refine wpAny_pyNext_enum_endD D he ⟨by rw [hn]; exact hit, p⟩ fun h' eb => ⟨rfl, I.turned (t' := s.toks) (fun b o hb q => eb b o hb q) f0 f1 f3 f4 f5⟩
  self := fun A i s Q E st h => let ⟨⟨_, he⟩, _⟩ := st; wpAny_pyIter_enum he h

/-- enumerate(t) made -/
theorem meets_enumT {v : Value} {o : Obj} {H : Heap → Prop} (B : Begins v o H) :
    Meets (Builtin.«enumerate.__new__» ⟨[.type "enumerate", v], []⟩) (fun _ R s => H s.heap ∧
      R (.ok (.ret (.ref (s.heap.push o).objs.size)))
        { s with heap := (s.heap.push o).push { cls := .type "enumerate", data := .fields #[.none, .bool false, .ref s.heap.objs.size, rawInt 0, .none, .none] } }) :=
  .of_wp fun prog w A R s h => by
    obtain ⟨hp, g, d, tk, os⟩ := s; obtain ⟨h1, h⟩ := h
    have hsub := sub_enumerate
    have q1 : ∀ {A' : Around} {E : Value → Shared → Prop} {Q : Value → Shared → Prop}, Q (.ref hp.objs.size) ⟨hp.push o, g, d, tk, os⟩ →
        wpAny (model prog w) A' (pyIter v) Q E ⟨hp, g, d, tk, os⟩ := fun q => B.iter prog w _ _ ⟨hp, g, d, tk, os⟩ _ h1 q
    wp_walk using q1
    refine wpAny_stack_any fun st => wpAny_pure ?_
    split
    · rename_i c _ _ _ _ _
      cases (c == Value.type "enumerate")
      · wp_walk using q1
        exact ⟨_, rfl, h⟩
      · wp_walk using q1
        exact ⟨_, rfl, h⟩
    · wp_walk using q1
      exact ⟨_, rfl, h⟩
def iEnumT (K : PySem.W.Frag) (ta : TA) : TI := fun σ H R => ta σ H fun vs H1 => ∃ a xs, vs = [.ref a] ∧ SqT K H1 a xs ∧ R (IteT K a) H1
theorem pi_enumT {X : Cx} {e : Expr} {ta : TA} {p pos tpos : Pos} {elts : List Expr} {kk : Nat} (hg : Gl X "enumerate") (hm : X.mg "enumerate" = none)
    (ha : PA X [e] ta) (hs : starEach [e] X.env = [(false, eval e X.env)] := by rfl) :
    PI X (.Tuple elts kk tpos) (.Call (.Name "enumerate" p) [e] [] pos) (iEnumT X.K ta) := by
  refine ⟨fun pins s σ H R I h => ?_⟩
  refine Call_ (ld_blt I hg hm boot_enumerate (PyProof.Rows.callWith_type1 (thn (ha.run pos pins s σ H _ I h) fun us s1 ⟨vs, H1, I1, r1, q1⟩ => ?_) hs rfl))
  obtain ⟨a, xs, ex, hq, q⟩ := q1
  subst ex
  cases r1 with
  | cons r rr =>
    cases rr
    cases r
    obtain ⟨its, rv, p', hz⟩ := I1.tuple hq
    refine callType_new F.called_enumerate (by decide) (F.typeCall_enumerate_1 _) (F.newCall_enumerate_1 _) (fun obj => F.args_object_init_2 obj _)
      F.entry_enumerate_new (meets_enumT (begins_tuple a its.toArray)) ⟨p', ?_⟩
    have z1 : (s1.heap.push { cls := .type "tuple_iterator", data := .fields #[.ref a, .int 0 0] }).objs.size = s1.heap.objs.size + 1 := Heap.size_push ..
    show _ ∧ _
    rw [z1]
    have he : IsEnum ((s1.heap.push { cls := .type "tuple_iterator", data := .fields #[.ref a, .int 0 0] }).push
        { cls := .type "enumerate", data := .fields #[.none, .bool false, .ref s1.heap.objs.size, rawInt 0, .none, .none] })
        (s1.heap.objs.size + 1) s1.heap.objs.size 0 .none := by
      have := Heap.get?_push_size (s1.heap.push { cls := .type "tuple_iterator", data := .fields #[.ref a, .int 0 0] })
        (o := { cls := .type "enumerate", data := .fields #[.none, .bool false, .ref s1.heap.objs.size, rawInt 0, .none, .none] }) rfl
      rw [z1] at this; exact this
    refine ⟨⟨_, he, rfl⟩, ?_⟩
    refine wpAny_pyIter_enum he ?_
    have I2 : L2.Inv X pins σ H1 ⟨(s1.heap.push { cls := .type "tuple_iterator", data := .fields #[.ref a, .int 0 0] }).push { cls := .type "enumerate", data := .fields #[.none, .bool false, .ref s1.heap.objs.size, rawInt 0, .none, .none] }, s1.gens, s1.drawn, s1.toks, s1.os⟩ :=
      I1.kept (t' := s1.toks) fun b o x => Heap.get?_push_of_some _ (Heap.get?_push_of_some _ x)
    refine ⟨s1.heap.objs.size + 1, [s1.heap.objs.size + 1, s1.heap.objs.size], _, _, H1, rfl, I2, turn_enumT a (s1.heap.objs.size + 1) s1.heap.objs.size,
      ⟨⟨.none, he⟩, ⟨_, Heap.get?_push_of_some _ (Heap.get?_push_size _ rfl), rfl, rfl⟩, Nat.succ_ne_self _⟩, fun b hb => ?_, q⟩
    have e' : b = s1.heap.objs.size + 1 ∨ b = s1.heap.objs.size := by simpa using hb
    have hle : s1.heap.objs.size ≤ b := by
      rcases e' with z | z
      · rw [z]; exact Nat.le_succ _
      · rw [z]; exact Nat.le_refl _
    exact I1.fpOk hle (I1.hok.fresh hle)
end Td
/-! Data: what stays, data in the heap, names, rows. -/
namespace Td
open PySem PySem.Spec PyProof.Rows L2

/-! ### what stays while the object at st changes -/
def Keep (st : Addr) (H H' : Hp) : Prop := ∀ b o, b ≠ st → H b = some o → H' b = some o
theorem Keep.refl (st : Addr) (H : Hp) : Keep st H H := fun _ _ _ h => h
theorem Keep.trans {st : Addr} {H H1 H2 : Hp} (a : Keep st H H1) (b : Keep st H1 H2) : Keep st H H2 := fun c o n h => b c o n (a c o n h)
theorem Keep.upd {st : Addr} {H : Hp} {o : HO} : Keep st H (upd H st o) := fun b u n h => by rw [upd_ne n]; exact h
theorem Keep.new {st p : Addr} {H : Hp} {o : HO} (h : H p = none) : Keep st H (L2.upd H p o) := fun b u n e => by
  rw [upd_ne (ne_of_none e h)]; exact e
theorem Keep.free {st p : Addr} {H H' : Hp} (k : Keep st H H') (n : p ≠ st) (h : H' p = none) : H p = none := by
  cases e : H p with
  | none => rfl
  | some o => rw [k p o n e] at h; cases h
/-- an object that was not there at first is changed -/
theorem Keep.own {st p : Addr} {H H' : Hp} {o : HO} (k : Keep st H H') (h : H p = none) : Keep st H (L2.upd H' p o) := fun b u nb e => by
  rw [upd_ne (ne_of_none e h)]; exact k b u nb e
theorem Same.new {H : Hp} {p : Addr} (h : H p = none) (o : HO) : Same H (upd H p o) := fun b u e => by
  rw [upd_ne (ne_of_none e h)]; exact e
theorem Same.keep {H H' : Hp} (h : Same H H') (st : Addr) : Keep st H H' := fun b o _ e => h b o e

/-! ### immutable and mutable data, away from st -/
section
variable {K : PySem.W.Frag} {H H' : Hp} {a : Addr} {xs : List V}
theorem SqT.same (s : Same H H') (h : SqT K H a xs) : SqT K H' a xs := by
  rcases h with (h | ⟨o, h⟩) | h
  · exact .inl (.inl (s _ _ h))
  · exact .inl (.inr ⟨o, s _ _ h⟩)
  · exact .inr h
theorem SqL.same (s : Same H H') (h : SqL K H a xs) : SqL K H' a xs := s.seq h
theorem SqT.keep {st : Addr} (s : Keep st H H') (n : a ≠ st) (h : SqT K H a xs) : SqT K H' a xs := by
  rcases h with (h | ⟨o, h⟩) | h
  · exact .inl (.inl (s _ _ n h))
  · exact .inl (.inr ⟨o, s _ _ n h⟩)
  · exact .inr h
theorem SqL.keep {st : Addr} (s : Keep st H H') (n : a ≠ st) (h : SqL K H a xs) : SqL K H' a xs := by
  rcases h with (h | ⟨o, h⟩) | h
  · exact .inl (.inl (s _ _ n h))
  · exact .inl (.inr ⟨o, s _ _ n h⟩)
  · exact .inr h
end
mutual
/-- data at a value, none of its objects at st -/
inductive Dn (K : PySem.W.Frag) (st : Addr) (H : Hp) : V → PyData → Prop
  | non : Dn K st H .non .none
  | bl (b : Bool) : Dn K st H (.bl b) (.bool b)
  | int (i : Int) : Dn K st H (.int i) (.int i)
  | str (x : Str) : Dn K st H (.str x) (.str x)
  | lst {a : Addr} {xs : List V} {ds : List PyData} : a ≠ st → SqL K H a xs → DnAll K st H xs ds → Dn K st H (.ref a) (.list ds)
  | tup {a : Addr} {xs : List V} {ds : List PyData} : a ≠ st → SqT K H a xs → DnAll K st H xs ds → Dn K st H (.ref a) (.tuple ds)
inductive DnAll (K : PySem.W.Frag) (st : Addr) (H : Hp) : List V → List PyData → Prop
  | nil : DnAll K st H [] []
  | cons {v : V} {vs : List V} {d : PyData} {ds : List PyData} : Dn K st H v d → DnAll K st H vs ds → DnAll K st H (v :: vs) (d :: ds)
end
section
variable {K : PySem.W.Frag} {H H' : Hp} {st : Addr}
mutual
theorem Dn.keep (s : Keep st H H') : ∀ {v : V} {d : PyData}, Dn K st H v d → Dn K st H' v d
  | _, _, .non => .non
  | _, _, .bl b => .bl b
  | _, _, .int b => .int b
  | _, _, .str b => .str b
  | _, _, .lst n q r => .lst n (SqL.keep s n q) (DnAll.keep s r)
  | _, _, .tup n q r => .tup n (SqT.keep s n q) (DnAll.keep s r)
theorem DnAll.keep (s : Keep st H H') : ∀ {v : List V} {d : List PyData}, DnAll K st H v d → DnAll K st H' v d
  | _, _, .nil => .nil
  | _, _, .cons a b => .cons (Dn.keep s a) (DnAll.keep s b)
end
mutual
theorem Dn.dp : ∀ {v : V} {d : PyData}, Dn K st H v d → Dp K H v d
  | _, _, .non => .non
  | _, _, .bl b => .bl b
  | _, _, .int b => .int b
  | _, _, .str b => .str b
  | _, _, .lst n q r => .lst q (DnAll.dp r)
  | _, _, .tup n q r => .tup q (DnAll.dp r)
theorem DnAll.dp : ∀ {v : List V} {d : List PyData}, DnAll K st H v d → DpAll K H v d
  | _, _, .nil => .nil
  | _, _, .cons a b => .cons (Dn.dp a) (DnAll.dp b)
end
mutual
theorem Dp.same (s : Same H H') : ∀ {v : V} {d : PyData}, Dp K H v d → Dp K H' v d
  | _, _, .non => .non
  | _, _, .bl b => .bl b
  | _, _, .int b => .int b
  | _, _, .str b => .str b
  | _, _, .lst q r => .lst (SqL.same s q) (DpAll.same s r)
  | _, _, .tup q r => .tup (SqT.same s q) (DpAll.same s r)
theorem DpAll.same (s : Same H H') : ∀ {v : List V} {d : List PyData}, DpAll K H v d → DpAll K H' v d
  | _, _, .nil => .nil
  | _, _, .cons a b => .cons (Dp.same s a) (DpAll.same s b)
end
theorem DpAll.length : ∀ {vs : List V} {ds : List PyData}, DpAll K H vs ds → vs.length = ds.length
  | _, _, .nil => rfl
  | _, _, .cons _ r => by rw [List.length_cons, List.length_cons, DpAll.length r]
theorem DpAll.get : ∀ {vs : List V} {ds : List PyData} {i : Nat} {v : V}, DpAll K H vs ds → vs[i]? = some v → ∃ d, ds[i]? = some d ∧ Dp K H v d
  | _, _, _, _, .nil, h => by simp at h
  | _, _, 0, _, .cons a _, h => by simp at h; subst h; exact ⟨_, rfl, a⟩
  | _, _, i + 1, v, .cons _ r, h => by
    obtain ⟨d, h1, h2⟩ := DpAll.get (i := i) (v := v) r (by simpa using h)
    exact ⟨d, by simpa using h1, h2⟩
theorem DpAll.append : ∀ {vs ws : List V} {ds es : List PyData}, DpAll K H vs ds → DpAll K H ws es → DpAll K H (vs ++ ws) (ds ++ es)
  | _, _, _, _, .nil, h => h
  | _, _, _, _, .cons a r, h => .cons a (DpAll.append r h)
theorem DpAll.strs (zs : List Str) : DpAll K H (zs.map V.str) (zs.map PyData.str) := by
  induction zs with
  | nil => exact .nil
  | cons z r ih => exact .cons (.str z) ih
theorem DnAll.strs (zs : List Str) : DnAll K st H (zs.map V.str) (zs.map PyData.str) := by
  induction zs with
  | nil => exact .nil
  | cons z r ih => exact .cons (.str z) ih
theorem DnAll.append : ∀ {vs ws : List V} {ds es : List PyData}, DnAll K st H vs ds → DnAll K st H ws es → DnAll K st H (vs ++ ws) (ds ++ es)
  | _, _, _, _, .nil, h => h
  | _, _, _, _, .cons a r, h => .cons a (DnAll.append r h)
theorem DnAll.length : ∀ {vs : List V} {ds : List PyData}, DnAll K st H vs ds → vs.length = ds.length
  | _, _, .nil => rfl
  | _, _, .cons _ r => by rw [List.length_cons, List.length_cons, DnAll.length r]
theorem DnAll.get : ∀ {vs : List V} {ds : List PyData} {i : Nat} {v : V}, DnAll K st H vs ds → vs[i]? = some v → ∃ d, ds[i]? = some d ∧ Dn K st H v d
  | _, _, _, _, .nil, h => by simp at h
  | _, _, 0, _, .cons a _, h => by simp at h; subst h; exact ⟨_, rfl, a⟩
  | _, _, i + 1, v, .cons _ r, h => by
    obtain ⟨d, h1, h2⟩ := DnAll.get (i := i) (v := v) r (by simpa using h)
    exact ⟨d, by simpa using h1, h2⟩
/-- a tuple's value -/
theorem Dp.tup_inv {v : V} {ds : List PyData} (h : Dp K H v (.tuple ds)) : ∃ a xs, v = .ref a ∧ SqT K H a xs ∧ DpAll K H xs ds := by
  cases h with
  | tup q r => exact ⟨_, _, rfl, q, r⟩
theorem Dn.tup_inv {v : V} {ds : List PyData} (h : Dn K st H v (.tuple ds)) : ∃ a xs, v = .ref a ∧ a ≠ st ∧ SqT K H a xs ∧ DnAll K st H xs ds := by
  cases h with
  | tup n q r => exact ⟨_, _, rfl, n, q, r⟩
theorem Dp.str_inv {v : V} {z : Str} (h : Dp K H v (.str z)) : v = .str z := by cases h; rfl
theorem Dn.str_inv {v : V} {z : Str} (h : Dn K st H v (.str z)) : v = .str z := by cases h; rfl
theorem DpAll.strs_inv : ∀ {vs : List V} {zs : List Str}, DpAll K H vs (zs.map PyData.str) → vs = zs.map V.str
  | vs, [], h => by cases h; rfl
  | vs, z :: zs, h => by
    cases h with
    | cons a r => cases a; rw [DpAll.strs_inv r]; rfl
theorem DnAll.strs_inv : ∀ {vs : List V} {zs : List Str}, DnAll K st H vs (zs.map PyData.str) → vs = zs.map V.str
  | vs, [], h => by cases h; rfl
  | vs, z :: zs, h => by
    cases h with
    | cons a r => cases a; rw [DnAll.strs_inv r]; rfl
theorem DnAll.of_dp_new {p : Addr} {o : HO} {vs : List V} {ds : List PyData} (h : DnAll K st H vs ds) (hp : H p = none) : DnAll K st (upd H p o) vs ds := DnAll.keep (Keep.new hp) h
theorem Dn.new {p : Addr} {o : HO} {v : V} {d : PyData} (h : Dn K st H v d) (hp : H p = none) : Dn K st (upd H p o) v d := Dn.keep (Keep.new hp) h
end

/-! ### names -/
def lowc (c : Nat) : Bool := decide (97 ≤ c) && decide (c ≤ 122)
def isNm (z : Str) : Bool := decide (1 ≤ z.length) && decide (z.length ≤ 8) && z.cps.toList.all lowc

/-! ### rows -/
inductive Row where
  | rd (pk : Bool) (c s : Str)
  | put (s w : Str)
  | give (s : Str)
  | say (s : Str)
  | wr (c s : Str)
  | ite (s w : Str) (y n : List Row)
mutual
def rowD : Row → PyData
  | .rd pk c s => .tuple [.str (if pk then "peek" else "read"), .str c, .str s]
  | .put s w => .tuple [.str "put", .str s, .str w]
  | .give s => .tuple [.str "give", .str s]
  | .say s => .tuple [.str "say", .str s]
  | .wr c s => .tuple [.str "write", .str c, .str s]
  | .ite s w y n => .tuple [.str "if", .str s, .str w, .tuple (rowsD y), .tuple (rowsD n)]
def rowsD : List Row → List PyData
  | [] => []
  | r :: rs => rowD r :: rowsD rs
end
theorem rowsD_length : ∀ rs, (rowsD rs).length = rs.length
  | [] => by unfold rowsD; rfl
  | r :: rs => by unfold rowsD; rw [List.length_cons, List.length_cons, rowsD_length rs]
theorem rowsD_append : ∀ rs ts, rowsD (rs ++ ts) = rowsD rs ++ rowsD ts
  | [], ts => by simp [rowsD]
  | r :: rs, ts => by simp only [List.cons_append, rowsD, rowsD_append rs ts]
theorem rowsD_get : ∀ {rs : List Row} {i : Nat} {r : Row}, rs[i]? = some r → (rowsD rs)[i]? = some (rowD r)
  | [], i, r, h => by simp at h
  | x :: rs, 0, r, h => by simp at h; subst h; unfold rowsD; rfl
  | x :: rs, i + 1, r, h => by
    unfold rowsD
    rw [List.getElem?_cons_succ]
    exact rowsD_get (by simpa using h)
mutual
def cnt : Row → Nat
  | .ite _ _ y n => 1 + cnts y + cnts n
  | .rd .. => 1
  | .put .. => 1
  | .give .. => 1
  | .say .. => 1
  | .wr .. => 1
def cnts : List Row → Nat
  | [] => 0
  | r :: rs => cnt r + cnts rs
end
theorem cnts_append : ∀ rs ts, cnts (rs ++ ts) = cnts rs + cnts ts
  | [], ts => by simp [cnts]
  | r :: rs, ts => by
    simp only [List.cons_append, cnts, cnts_append rs ts]; omega
/-- what the rows of a body may be and may name -/
structure Sc where
  eff : Bool
  words : List Str
  sources : List Str
  readable : List Str
mutual
def okR (S : Sc) (dep : Nat) : Row → Prop
  | .rd pk c s => (pk = true → S.eff = true) ∧ c ∈ S.readable ∧ isNm s = true
  | .put s w => isNm s = true ∧ w ∈ S.words
  | .give s => S.eff = false ∧ isNm s = true
  | .say s => S.eff = true ∧ isNm s = true
  | .wr c s => S.eff = true ∧ c ∈ S.sources ∧ isNm s = true
  | .ite s w y n => dep ≤ 3 ∧ isNm s = true ∧ w ∈ S.words ∧ okRs S (dep + 1) y ∧ okRs S (dep + 1) n
def okRs (S : Sc) (dep : Nat) : List Row → Prop
  | [] => True
  | r :: rs => okR S dep r ∧ okRs S dep rs
end
theorem okRs_append {S : Sc} {dep : Nat} : ∀ {rs ts}, okRs S dep rs → okRs S dep ts → okRs S dep (rs ++ ts)
  | [], ts, _, h => h
  | r :: rs, ts, h, h2 => by
    unfold okRs at h
    show okRs S dep (r :: (rs ++ ts))
    unfold okRs
    exact ⟨h.1, okRs_append h.2 h2⟩
theorem okRs_get {S : Sc} {dep : Nat} : ∀ {rs : List Row} {i : Nat} {r : Row}, okRs S dep rs → rs[i]? = some r → okR S dep r
  | [], i, r, _, h => by simp at h
  | x :: rs, 0, r, ok, h => by
    unfold okRs at ok
    simp at h; subst h; exact ok.1
  | x :: rs, i + 1, r, ok, h => by
    unfold okRs at ok
    exact okRs_get ok.2 (by simpa using h)
theorem okRs_one {S : Sc} {dep : Nat} {r : Row} (h : okR S dep r) : okRs S dep [r] := by
  unfold okRs
  exact ⟨h, by unfold okRs; trivial⟩
end Td
namespace Td
open PySem PySem.Spec PyProof.Rows L2
/-- an if whose test is known -/
theorem if_true_of {c : Bool} {A B : Prop} (hc : c = true) (h : A) : if c = true then A else B := by
  rw [if_pos hc]; exact h
theorem if_false_of {c : Bool} {A B : Prop} (hc : c = false) (h : B) : if c = true then A else B := by
  rw [hc, if_neg Bool.false_ne_true]; exact h
def rowTag : Row → Str
  | .rd pk _ _ => if pk then "peek" else "read"
  | .put .. => "put"
  | .give .. => "give"
  | .say .. => "say"
  | .wr .. => "write"
  | .ite .. => "if"
def isIte : Row → Bool
  | .ite .. => true
  | _ => false
theorem tag_if (r : Row) : decide (V.str (rowTag r) = V.str "if") = isIte r := by
  cases r with
  | rd pk c s =>
    cases pk
    · show decide (V.str "read" = V.str "if") = false; decide +kernel
    · show decide (V.str "peek" = V.str "if") = false; decide +kernel
  | put => show decide (V.str "put" = V.str "if") = false; decide +kernel
  | give => show decide (V.str "give" = V.str "if") = false; decide +kernel
  | say => show decide (V.str "say" = V.str "if") = false; decide +kernel
  | wr => show decide (V.str "write" = V.str "if") = false; decide +kernel
  | ite => show decide (V.str "if" = V.str "if") = true; decide +kernel
section
variable {K : PySem.W.Frag} {H H' : Hp} {st : Addr} {v : V}
/-- a row's tuple -/
theorem row_at {r : Row} (h : Dp K H v (rowD r)) : ∃ a xs, v = .ref a ∧ SqT K H a xs ∧ xs[0]? = some (.str (rowTag r)) := by
  cases r with
  | rd pk c s =>
    obtain ⟨a, xs, rfl, hS, hD⟩ := Dp.tup_inv (by unfold rowD at h; exact h)
    cases hD with | cons h1 _ => cases h1; exact ⟨a, _, rfl, hS, rfl⟩
  | put s w =>
    obtain ⟨a, xs, rfl, hS, hD⟩ := Dp.tup_inv (by unfold rowD at h; exact h)
    cases hD with | cons h1 _ => cases h1; exact ⟨a, _, rfl, hS, rfl⟩
  | give s =>
    obtain ⟨a, xs, rfl, hS, hD⟩ := Dp.tup_inv (by unfold rowD at h; exact h)
    cases hD with | cons h1 _ => cases h1; exact ⟨a, _, rfl, hS, rfl⟩
  | say s =>
    obtain ⟨a, xs, rfl, hS, hD⟩ := Dp.tup_inv (by unfold rowD at h; exact h)
    cases hD with | cons h1 _ => cases h1; exact ⟨a, _, rfl, hS, rfl⟩
  | wr c s =>
    obtain ⟨a, xs, rfl, hS, hD⟩ := Dp.tup_inv (by unfold rowD at h; exact h)
    cases hD with | cons h1 _ => cases h1; exact ⟨a, _, rfl, hS, rfl⟩
  | ite s w y n =>
    obtain ⟨a, xs, rfl, hS, hD⟩ := Dp.tup_inv (by unfold rowD at h; exact h)
    cases hD with | cons h1 _ => cases h1; exact ⟨a, _, rfl, hS, rfl⟩
theorem DpAll.inv2 {xs : List V} {d1 d2 : PyData} (h : DpAll K H xs [d1, d2]) : ∃ v1 v2, xs = [v1, v2] ∧ Dp K H v1 d1 ∧ Dp K H v2 d2 := by
  cases h with | cons a r => cases r with | cons b r => cases r; exact ⟨_, _, rfl, a, b⟩
theorem DpAll.inv3 {xs : List V} {d1 d2 d3 : PyData} (h : DpAll K H xs [d1, d2, d3]) : ∃ v1 v2 v3, xs = [v1, v2, v3] ∧ Dp K H v1 d1 ∧ Dp K H v2 d2 ∧ Dp K H v3 d3 := by
  cases h with | cons a r => obtain ⟨v2, v3, rfl, h2, h3⟩ := DpAll.inv2 r; exact ⟨_, _, _, rfl, a, h2, h3⟩
theorem DpAll.inv5 {xs : List V} {d1 d2 d3 d4 d5 : PyData} (h : DpAll K H xs [d1, d2, d3, d4, d5]) :
    ∃ v1 v2 v3 v4 v5, xs = [v1, v2, v3, v4, v5] ∧ Dp K H v1 d1 ∧ Dp K H v2 d2 ∧ Dp K H v3 d3 ∧ Dp K H v4 d4 ∧ Dp K H v5 d5 := by
  cases h with | cons a r => cases r with | cons b r => obtain ⟨v3, v4, v5, rfl, h3, h4, h5⟩ := DpAll.inv3 r; exact ⟨_, _, _, _, _, rfl, a, b, h3, h4, h5⟩
theorem rd_at {pk : Bool} {c s : Str} (h : Dp K H v (rowD (.rd pk c s))) : ∃ a, v = .ref a ∧ SqT K H a [.str (if pk then "peek" else "read"), .str c, .str s] := by
  obtain ⟨a, xs, rfl, hS, hD⟩ := Dp.tup_inv (by unfold rowD at h; exact h)
  obtain ⟨v1, v2, v3, rfl, h1, h2, h3⟩ := DpAll.inv3 hD
  cases h1; cases h2; cases h3
  exact ⟨a, rfl, hS⟩
theorem put_at {s c : Str} (h : Dp K H v (rowD (.put s c))) : ∃ a, v = .ref a ∧ SqT K H a [.str "put", .str s, .str c] := by
  obtain ⟨a, xs, rfl, hS, hD⟩ := Dp.tup_inv (by unfold rowD at h; exact h)
  obtain ⟨v1, v2, v3, rfl, h1, h2, h3⟩ := DpAll.inv3 hD
  cases h1; cases h2; cases h3
  exact ⟨a, rfl, hS⟩
theorem wr_at {s c : Str} (h : Dp K H v (rowD (.wr c s))) : ∃ a, v = .ref a ∧ SqT K H a [.str "write", .str c, .str s] := by
  obtain ⟨a, xs, rfl, hS, hD⟩ := Dp.tup_inv (by unfold rowD at h; exact h)
  obtain ⟨v1, v2, v3, rfl, h1, h2, h3⟩ := DpAll.inv3 hD
  cases h1; cases h2; cases h3
  exact ⟨a, rfl, hS⟩
theorem give_at {s : Str} (h : Dp K H v (rowD (.give s))) : ∃ a, v = .ref a ∧ SqT K H a [.str "give", .str s] := by
  obtain ⟨a, xs, rfl, hS, hD⟩ := Dp.tup_inv (by unfold rowD at h; exact h)
  obtain ⟨v1, v2, rfl, h1, h2⟩ := DpAll.inv2 hD
  cases h1; cases h2
  exact ⟨a, rfl, hS⟩
theorem say_at {s : Str} (h : Dp K H v (rowD (.say s))) : ∃ a, v = .ref a ∧ SqT K H a [.str "say", .str s] := by
  obtain ⟨a, xs, rfl, hS, hD⟩ := Dp.tup_inv (by unfold rowD at h; exact h)
  obtain ⟨v1, v2, rfl, h1, h2⟩ := DpAll.inv2 hD
  cases h1; cases h2
  exact ⟨a, rfl, hS⟩
theorem ite_at {s c : Str} {y n : List Row} (h : Dp K H v (rowD (.ite s c y n))) : ∃ a vy vn, v = .ref a ∧ SqT K H a [.str "if", .str s, .str c, vy, vn] ∧
    Dp K H vy (.tuple (rowsD y)) ∧ Dp K H vn (.tuple (rowsD n)) := by
  obtain ⟨a, xs, rfl, hS, hD⟩ := Dp.tup_inv (by unfold rowD at h; exact h)
  obtain ⟨v1, v2, v3, v4, v5, rfl, h1, h2, h3, h4, h5⟩ := DpAll.inv5 hD
  cases h1; cases h2; cases h3
  exact ⟨a, _, _, rfl, hS, h4, h5⟩
/-- the rows' items -/
theorem rows_at {rs : List Row} (h : Dp K H v (.tuple (rowsD rs))) : ∃ (a : Addr) (xs : List V), v = .ref a ∧ SqT K H a xs ∧ xs.length = rs.length ∧
    ∀ (i : Nat) (x : V), xs[i]? = some x → ∃ r, rs[i]? = some r ∧ Dp K H x (rowD r) := by
  obtain ⟨a, xs, rfl, hS, hD⟩ := Dp.tup_inv h
  have hl := DpAll.length hD
  rw [rowsD_length] at hl
  refine ⟨a, xs, rfl, hS, hl, fun i x hx => ?_⟩
  have hi : i < rs.length := by rw [← hl]; exact (List.getElem?_eq_some_iff.mp hx).1
  obtain ⟨d, h1, h2⟩ := DpAll.get hD hx
  have e := rowsD_get (List.getElem?_eq_getElem hi)
  rw [h1] at e
  exact ⟨_, List.getElem?_eq_getElem hi, by rw [← Option.some.inj e]; exact h2⟩
end
theorem take_more {α : Type} {l : List α} {i : Nat} {x : α} (h : l[i]? = some x) : l.take (i + 1) = l.take i ++ [x] := by
  have hi := (List.getElem?_eq_some_iff.mp h).1
  rw [List.take_succ_eq_append_getElem hi, (List.getElem?_eq_some_iff.mp h).2]
theorem cnts_take {rs : List Row} {i : Nat} {r : Row} (h : rs[i]? = some r) : cnts (rs.take (i + 1)) = cnts (rs.take i) + cnt r := by
  rw [take_more h, cnts_append]
  simp [cnts]
theorem cnt_pos : ∀ r, 1 ≤ cnt r
  | .ite _ _ y n => by unfold cnt; omega
  | .rd .. => by unfold cnt; exact Nat.le_refl _
  | .put .. => by unfold cnt; exact Nat.le_refl _
  | .give .. => by unfold cnt; exact Nat.le_refl _
  | .say .. => by unfold cnt; exact Nat.le_refl _
  | .wr .. => by unfold cnt; exact Nat.le_refl _
theorem cnt_flat : ∀ {r}, isIte r = false → cnt r = 1
  | .ite .., h => by cases h
  | .rd .., _ => rfl
  | .put .., _ => rfl
  | .give .., _ => rfl
  | .say .., _ => rfl
  | .wr .., _ => rfl
end Td
/-! Data of tuples, texts, numbers alone. -/
namespace Td
open PySem PySem.Spec PyProof.Rows L2
def TK (H H' : Hp) : Prop := (∀ b xs, H b = some (.tup xs) → H' b = some (.tup xs)) ∧ ∀ b o u, H b = some (.frz o u) → H' b = some (.frz o u)
theorem TK.refl (H : Hp) : TK H H := ⟨fun _ _ h => h, fun _ _ _ h => h⟩
theorem TK.trans {H H1 H2 : Hp} (a : TK H H1) (b : TK H1 H2) : TK H H2 := ⟨fun c xs h => b.1 c xs (a.1 c xs h), fun c o u h => b.2 c o u (a.2 c o u h)⟩
theorem TK.of_same {H H' : Hp} (s : Same H H') : TK H H' := ⟨fun c xs h => s c _ h, fun c o u h => s c _ h⟩
/-- what may change: no tuple, nothing locked -/
def Chg : Option HO → Prop
  | some (.tup _) => False
  | some (.frz _ _) => False
  | _ => True
theorem TK.of_keep {st : Addr} {H H' : Hp} (k : Keep st H H') (h : Chg (H st)) : TK H H' :=
  ⟨fun b xs e => k b _ (fun z => by rw [z] at e; rw [e] at h; exact h) e, fun b o u e => k b _ (fun z => by rw [z] at e; rw [e] at h; exact h) e⟩
theorem TK.upd {p : Addr} {H : Hp} {o : HO} (h : Chg (H p)) : TK H (L2.upd H p o) := TK.of_keep (st := p) Keep.upd h
mutual
inductive Tn (K : PySem.W.Frag) (H : Hp) : V → PyData → Prop
  | non : Tn K H .non .none
  | bl (b : Bool) : Tn K H (.bl b) (.bool b)
  | int (i : Int) : Tn K H (.int i) (.int i)
  | str (x : Str) : Tn K H (.str x) (.str x)
  | tup {a : Addr} {xs : List V} {ds : List PyData} : SqT K H a xs → TnAll K H xs ds → Tn K H (.ref a) (.tuple ds)
inductive TnAll (K : PySem.W.Frag) (H : Hp) : List V → List PyData → Prop
  | nil : TnAll K H [] []
  | cons {v : V} {vs : List V} {d : PyData} {ds : List PyData} : Tn K H v d → TnAll K H vs ds → TnAll K H (v :: vs) (d :: ds)
end
section
variable {K : PySem.W.Frag} {H H' : Hp} {st : Addr}
theorem SqT.tk {a : Addr} {xs : List V} (k : TK H H') (h : SqT K H a xs) : SqT K H' a xs := by
  rcases h with (h | ⟨o, h⟩) | h
  · exact .inl (.inl (k.1 _ _ h))
  · exact .inl (.inr ⟨o, k.2 _ _ _ h⟩)
  · exact .inr h
mutual
theorem Tn.keep (s : TK H H') : ∀ {v : V} {d : PyData}, Tn K H v d → Tn K H' v d
  | _, _, .non => .non
  | _, _, .bl b => .bl b
  | _, _, .int b => .int b
  | _, _, .str b => .str b
  | _, _, .tup q r => .tup (SqT.tk s q) (TnAll.keep s r)
theorem TnAll.keep (s : TK H H') : ∀ {v : List V} {d : List PyData}, TnAll K H v d → TnAll K H' v d
  | _, _, .nil => .nil
  | _, _, .cons a b => .cons (Tn.keep s a) (TnAll.keep s b)
end
mutual
theorem Tn.dp : ∀ {v : V} {d : PyData}, Tn K H v d → Dp K H v d
  | _, _, .non => .non
  | _, _, .bl b => .bl b
  | _, _, .int b => .int b
  | _, _, .str b => .str b
  | _, _, .tup q r => .tup q (TnAll.dp r)
theorem TnAll.dp : ∀ {v : List V} {d : List PyData}, TnAll K H v d → DpAll K H v d
  | _, _, .nil => .nil
  | _, _, .cons a b => .cons (Tn.dp a) (TnAll.dp b)
end
theorem TnAll.strs (zs : List Str) : TnAll K H (zs.map V.str) (zs.map PyData.str) := by
  induction zs with
  | nil => exact .nil
  | cons z r ih => exact .cons (.str z) ih
theorem TnAll.append : ∀ {vs ws : List V} {ds es : List PyData}, TnAll K H vs ds → TnAll K H ws es → TnAll K H (vs ++ ws) (ds ++ es)
  | _, _, _, _, .nil, h => h
  | _, _, _, _, .cons a r, h => .cons a (TnAll.append r h)
theorem TnAll.length : ∀ {vs : List V} {ds : List PyData}, TnAll K H vs ds → vs.length = ds.length
  | _, _, .nil => rfl
  | _, _, .cons _ r => by rw [List.length_cons, List.length_cons, TnAll.length r]
theorem TnAll.one {v : V} {d : PyData} (h : Tn K H v d) : TnAll K H [v] [d] := .cons h .nil
theorem Tn.tup_inv {v : V} {ds : List PyData} (h : Tn K H v (.tuple ds)) : ∃ (a : Addr) (xs : List V), v = .ref a ∧ SqT K H a xs ∧ TnAll K H xs ds := by
  cases h with
  | tup q r => exact ⟨_, _, rfl, q, r⟩
theorem TnAll.get : ∀ {vs : List V} {ds : List PyData} {i : Nat} {v : V}, TnAll K H vs ds → vs[i]? = some v → ∃ d, ds[i]? = some d ∧ Tn K H v d
  | _, _, _, _, .nil, h => by simp at h
  | _, _, 0, _, .cons a _, h => by simp at h; subst h; exact ⟨_, rfl, a⟩
  | _, _, i + 1, v, .cons _ r, h => by
    obtain ⟨d, h1, h2⟩ := TnAll.get (i := i) (v := v) r (by simpa using h)
    exact ⟨d, by simpa using h1, h2⟩
theorem TnAll.strs_inv : ∀ {vs : List V} {zs : List Str}, TnAll K H vs (zs.map PyData.str) → vs = zs.map V.str
  | vs, [], h => by cases h; rfl
  | vs, z :: zs, h => by
    cases h with
    | cons a r => cases a; rw [TnAll.strs_inv r]; rfl
/-- a new tuple -/
theorem Tn.new {p : Addr} {xs : List V} {ds : List PyData} (h : TnAll K H xs ds) (hp : H p = none) : Tn K (upd H p (.tup xs)) (.ref p) (.tuple ds) :=
  .tup (SqT.of upd_same) (TnAll.keep (TK.of_same (Same.new hp _)) h)
end
/-! ### an if whose second way is shown once -/
def tIfC (c : TT) (t u : TS) : TS := fun D σ H => ∃ Mid : Hp → Prop, (c σ H fun b H1 => if b = true then t D σ H1 else Mid H1) ∧ ∀ H1, Mid H1 → u D σ H1
theorem ps_ifC {X : Cx} {c : Expr} {a b : List Stmt} {tc : TT} {t u : TS} {pos : Pos} (hc : PT X c tc) (ha : PSs X a t) (hb : PSs X b u) : PS X (.If c a b pos) (tIfC tc t u) := by
  refine ⟨fun pins s σ H D I h => ?_⟩
  obtain ⟨Mid, h, hu⟩ := h
  refine wpAny_If (thn (hc.run pins s σ H _ I h) fun d s1 ⟨H1, I1, q1⟩ => ?_)
  cases d with
  | true => exact ha.run pins s1 σ H1 D I1 q1
  | false => exact hb.run pins s1 σ H1 D I1 (hu H1 q1)
end Td
/-! The parts of a program. -/
namespace Td
open PySem PySem.Spec PyProof.Rows L2
/-- a list of different names -/
structure Names (ns : List Str) : Prop where
  good : ∀ z ∈ ns, isNm z = true
  nd : ns.Nodup
structure PP where
  words : List Str
  sources : List Str
  derived : List (Str × List Row)
  effects : List (Str × List Row)
def pairD (p : Str × List Row) : PyData := .tuple [.str p.1, .tuple (rowsD p.2)]
def strsD (zs : List Str) : PyData := .tuple (zs.map PyData.str)
def pairsD (ps : List (Str × List Row)) : PyData := .tuple (ps.map pairD)
def PP.data (p : PP) : PyData := .tuple [strsD p.words, strsD p.sources, pairsD p.derived, pairsD p.effects]
def PP.names (p : PP) : List Str := p.sources ++ p.derived.map (·.1) ++ p.effects.map (·.1)
def PP.cells (p : PP) : List Str := p.sources ++ p.derived.map (·.1)
/-- not too many rows; the last of them may be a give or a say beyond the room -/
def Lim (eff : Bool) (most : Nat) (rs : List Row) : Prop := cnts rs ≤ most ∧ ∃ rs0 t, rs = rs0 ++ t ∧ cnts rs0 + 1 ≤ most ∧ (t = [] ∨ ∃ s, t = [if eff then Row.say s else Row.give s])
/-- derived bodies are right, each behind the cells ahead of it -/
def okDer (words sources : List Str) (most : Nat) : List Str → List (Str × List Row) → Prop
  | _, [] => True
  | rd, p :: r => okRs ⟨false, words, sources, rd⟩ 1 p.2 ∧ Lim false most p.2 ∧ okDer words sources most (rd ++ [p.1]) r
def okEff (words sources rd : List Str) (most : Nat) : List (Str × List Row) → Prop
  | [] => True
  | p :: r => okRs ⟨true, words, sources, rd⟩ 1 p.2 ∧ Lim true most p.2 ∧ okEff words sources rd most r
structure PP.Ok (p : PP) (most : Nat) : Prop where
  w2 : 2 ≤ p.words.length
  w4 : p.words.length ≤ 4
  s1 : 1 ≤ p.sources.length
  s4 : p.sources.length ≤ 4
  d6 : p.derived.length ≤ 6
  e4 : p.effects.length ≤ 4
  wn : Names p.words
  nn : Names p.names
  der : okDer p.words p.sources most p.sources p.derived
  eff : okEff p.words p.sources p.cells most p.effects
theorem okDer_snoc {words sources : List Str} {most : Nat} : ∀ {ps : List (Str × List Row)} {rd : List Str} {p : Str × List Row}, okDer words sources most rd ps →
    okRs ⟨false, words, sources, rd ++ ps.map (·.1)⟩ 1 p.2 → Lim false most p.2 → okDer words sources most rd (ps ++ [p])
  | [], rd, p, _, h1, h2 => by
    show okDer words sources most rd [p]
    unfold okDer
    exact ⟨by simpa using h1, h2, by unfold okDer; trivial⟩
  | q :: ps, rd, p, h, h1, h2 => by
    show okDer words sources most rd (q :: (ps ++ [p]))
    unfold okDer at h ⊢
    refine ⟨h.1, h.2.1, okDer_snoc h.2.2 ?_ h2⟩
    simpa using h1
theorem okEff_snoc {words sources rd : List Str} {most : Nat} : ∀ {ps : List (Str × List Row)} {p : Str × List Row}, okEff words sources rd most ps →
    okRs ⟨true, words, sources, rd⟩ 1 p.2 → Lim true most p.2 → okEff words sources rd most (ps ++ [p])
  | [], p, _, h1, h2 => by
    show okEff words sources rd most [p]
    unfold okEff
    exact ⟨h1, h2, by unfold okEff; trivial⟩
  | q :: ps, p, h, h1, h2 => by
    show okEff words sources rd most (q :: (ps ++ [p]))
    unfold okEff at h ⊢
    exact ⟨h.1, h.2.1, okEff_snoc h.2.2 h1 h2⟩
theorem Names.sub {ns ms : List Str} (h : Names ns) (s : ms.Sublist ns) : Names ms := ⟨fun z hz => h.good z (s.subset hz), h.nd.sublist s⟩
/-- the keys of the shape -/
def shp (k c s sl w : V) : List (Key × V) := [(.inr "kind", k), (.inr "cells", c), (.inr "sources", s), (.inr "slots", sl), (.inr "words", w)]
def shp7 (k c s sl w p r : V) : List (Key × V) := [(.inr "kind", k), (.inr "cells", c), (.inr "sources", s), (.inr "slots", sl), (.inr "words", w), (.inr "peeks", p), (.inr "writes", r)]
def shp6 (k c s sl w p : V) : List (Key × V) := [(.inr "kind", k), (.inr "cells", c), (.inr "sources", s), (.inr "slots", sl), (.inr "words", w), (.inr "peeks", p)]
section
variable (k c s sl w p r k' c' p' r' : V)
theorem shp_merge : mergeK [] (shp k c s sl w) = shp k c s sl w := by kernel_rfl
theorem shp_peeks : putK (shp k c s sl w) (.inr "peeks") p = shp6 k c s sl w p := by kernel_rfl
theorem shp_writes : putK (shp6 k c s sl w p) (.inr "writes") r = shp7 k c s sl w p r := by kernel_rfl
theorem shp7_cells : putK (shp7 k c s sl w p r) (.inr "cells") c' = shp7 k c' s sl w p r := by kernel_rfl
theorem shp7_kind : putK (shp7 k c s sl w p r) (.inr "kind") k' = shp7 k' c s sl w p r := by kernel_rfl
theorem shp7_peeks : putK (shp7 k c s sl w p r) (.inr "peeks") p' = shp7 k c s sl w p' r := by kernel_rfl
theorem shp7_writes : putK (shp7 k c s sl w p r) (.inr "writes") r' = shp7 k c s sl w p r' := by kernel_rfl
theorem get_words : valV (shp7 k c s sl w p r) (.inr "words") = some w := by kernel_rfl
theorem get_slots : valV (shp7 k c s sl w p r) (.inr "slots") = some sl := by kernel_rfl
theorem get_cells : valV (shp7 k c s sl w p r) (.inr "cells") = some c := by kernel_rfl
theorem get_sources : valV (shp7 k c s sl w p r) (.inr "sources") = some s := by kernel_rfl
theorem get_kind : valV (shp7 k c s sl w p r) (.inr "kind") = some k := by kernel_rfl
theorem get_peeks : valV (shp7 k c s sl w p r) (.inr "peeks") = some p := by kernel_rfl
theorem get_writes : valV (shp7 k c s sl w p r) (.inr "writes") = some r := by kernel_rfl
end
theorem inV_strs (z : Str) (ws : List Str) : inV (.str z) (ws.map V.str) = decide (z ∈ ws) := by
  induction ws with
  | nil => rfl
  | cons y r ih =>
    show (eqV (.str y) (.str z) || inV (.str z) (r.map V.str)) = _
    rw [ih]
    have e : eqV (.str y) (.str z) = decide (z = y) := by
      show (_ : Bool) = _
      by_cases h : z = y
      · subst h; simp [eqV]
      · simp [eqV, h]
        intro h'; exact h h'.symm
    rw [e]
    simp
theorem flat_strs (ws : List Str) : (ws.map V.str).all flatV = true := by
  rw [List.all_eq_true]; intro y hy; obtain ⟨u, _, rfl⟩ := List.mem_map.mp hy; rfl
theorem cut_from1 (xs : List V) : cutV xs (some 1) none = xs.drop 1 := by
  unfold cutV
  rw [HT.sIx_none, show HT.sIx xs.length 0 (some 1) = min 1 xs.length from HT.sIx_nat _ _ 1]
  rcases xs with _ | ⟨x, r⟩
  · rfl
  · show ((x :: r).drop (min 1 (r.length + 1))).take ((r.length + 1) - min 1 (r.length + 1)) = _
    rw [show min 1 (r.length + 1) = 1 by omega]
    simp
theorem cut_to (xs : List V) (k : Nat) (h : k ≤ xs.length) : cutV xs none (some (k : Int)) = xs.take k := by
  unfold cutV
  rw [HT.sIx_none, HT.sIx_nat, List.drop_zero, Nat.sub_zero, Nat.min_eq_left h]
theorem not_whole1 {xs : List V} (h : xs ≠ []) (hi : Option Int) : ¬ (HT.sIx xs.length 0 (some 1) = 0 ∧ HT.sIx xs.length xs.length hi = xs.length) := by
  rintro ⟨e, _⟩
  rw [show HT.sIx xs.length 0 (some 1) = min 1 xs.length from HT.sIx_nat _ _ 1] at e
  have := List.length_pos_iff.mpr h
  omega
/-- the words with another one at the end -/
theorem Names.turn {ws : List Str} {z : Str} (h : Names ws) (hz : isNm z = true) (hn : z ∉ ws) : Names (ws.drop 1 ++ [z]) := by
  refine ⟨fun y hy => ?_, ?_⟩
  · rcases List.mem_append.mp hy with q | q
    · exact h.good y (List.mem_of_mem_drop q)
    · rw [List.mem_singleton.mp q]; exact hz
  · refine List.nodup_append.mpr ⟨h.nd.sublist (List.drop_sublist 1 ws), by simp, fun a ha b hb e => ?_⟩
    have : b = z := by simpa using hb
    subst this
    subst e
    exact hn (List.mem_of_mem_drop ha)
end Td
/-! Loops over texts and enumerated tuples; a call of one of several defs. -/
namespace Td
open PySem PySem.Spec PyProof.Rows L2
theorem tYes_of {σ : L2.St} {H : Hp} {A B : Hp → Prop} (h : A H) : tYes σ H (fun b H3 => if b = true then A H3 else B H3) := by
  show (if true = true then A H else B H)
  exact iteT h
theorem lc_str {z : Str} {g : TG} {tt : TT} {te : TE} {vs : List Nat} {σ : L2.St} {H1 : Hp} {D : Addr} {Qd : Hp → Prop} (Pv : Nat → Hp → Prop) (h0 : Pv 0 (upd H1 D (.lst [])))
    (hs : ∀ (i c : Nat) (H : Hp), z.cps[i]? = some c → Pv i H → g (.str ⟨#[c]⟩) (wipe σ vs) H fun σ2 H2 => wipe σ2 vs = wipe σ vs ∧ tt σ2 H2 fun b H3 =>
      if b = true then te σ2 H3 fun y H4 => ∃ acc, H4 D = some (.lst acc) ∧ acc.length < sizeLine ∧ Pv (i + 1) (upd H4 D (.lst (acc ++ [y]))) else Pv (i + 1) H3) (hd : ∀ H, Pv z.cps.size H → Qd H) :
    ∃ W : Nat → Nat → Hp → Prop, (∃ m, W 0 m (upd H1 D (.lst []))) ∧ ∀ i m H, W i m H →
      ((Its z).stop i H ∧ Qd H) ∨ ((Its z).go i H ∧ ∃ Nx : Hp → Prop, (∀ H', Nx H' → ∃ m', m' < m ∧ W (i + 1) m' H') ∧ ∀ x H', (Its z).yld i H x H' → g x (wipe σ vs) H' fun σ2 H2 => wipe σ2 vs = wipe σ vs ∧ tt σ2 H2 fun b H3 =>
        if b = true then te σ2 H3 fun y H4 => ∃ acc, H4 D = some (.lst acc) ∧ acc.length < sizeLine ∧ Nx (upd H4 D (.lst (acc ++ [y]))) else Nx H3) := by
  refine ⟨fun i m H => m = z.cps.size - i ∧ i ≤ z.cps.size ∧ Pv i H, ⟨z.cps.size, by simp, Nat.zero_le _, h0⟩, ?_⟩
  rintro i m H ⟨rfl, hi, p⟩
  by_cases hlt : i < z.cps.size
  · refine .inr ⟨hlt, Pv (i + 1), fun H' p' => ⟨z.cps.size - (i + 1), by omega, rfl, hlt, p'⟩, fun x H' y => ?_⟩
    obtain ⟨e, c, hc, ex⟩ := y
    subst e
    subst ex
    exact hs i c _ hc p
  · have e : i = z.cps.size := by omega
    subst e
    exact .inl ⟨Nat.le_refl _, hd H p⟩
theorem for_enumT {K : PySem.W.Frag} {a : Addr} {xs : List V} {g : TG} {tb : TS} {D : Ends} {σ : L2.St} {H : Hp} (Pv : Nat → L2.St → Hp → Prop) (h0 : Pv 0 σ H) (hl : ∀ i σ H, i ≤ xs.length → Pv i σ H → SqT K H a xs)
    (hs : ∀ (i : Nat) (x : V) (σ : L2.St) (H : Hp) (T : Addr), xs[i]? = some x → Pv i σ H → H T = none → g (.ref T) σ (upd H T (.tup [.int (i : Nat), x])) fun σ2 H2 => tb { D with nx := Pv (i + 1), ct := Pv (i + 1), bk := D.nx } σ2 H2)
    (hd : ∀ σ H, Pv xs.length σ H → D.nx σ H) :
    ∃ W : Nat → Nat → L2.St → Hp → Prop, (∃ m, W 0 m σ H) ∧ ∀ i m σ H, W i m σ H →
      ((IteT K a).stop i H ∧ D.nx σ H) ∨ ((IteT K a).go i H ∧ ∃ N : L2.St → Hp → Prop, (∀ σ' H', N σ' H' → ∃ m', m' < m ∧ W (i + 1) m' σ' H') ∧
        ∀ x H', (IteT K a).yld i H x H' → g x σ H' fun σ2 H2 => tb { D with nx := N, ct := N, bk := D.nx } σ2 H2) := by
  refine ⟨fun i m σ H => m = xs.length - i ∧ i ≤ xs.length ∧ Pv i σ H, ⟨xs.length, by simp, Nat.zero_le _, h0⟩, ?_⟩
  rintro i m σ H ⟨rfl, hi, p⟩
  have q := hl i σ H hi p
  by_cases hlt : i < xs.length
  · refine .inr ⟨⟨xs, xs[i], q, by simp [hlt]⟩, Pv (i + 1), fun σ' H' p' => ⟨xs.length - (i + 1), by omega, rfl, hlt, p'⟩, fun x H' y => ?_⟩
    obtain ⟨T, u, ex, hT, eH, hu⟩ := y
    subst ex
    subst eH
    exact hs i u σ H T (hu xs q) p hT
  · have e : i = xs.length := by omega
    subst e
    exact .inl ⟨⟨xs, q, rfl⟩, hd σ H p⟩
/-- a call of a local name that holds one of several defs -/
def tCallR (i : Nat) (S : Addr → Sp → Prop) (t : TA) : TE := fun σ H Q => ∃ f sp, σ[i]? = some (some (.ref f)) ∧ S f sp ∧ t σ H fun vs H1 => sp vs H1 Q (fun _ _ _ => False)
section
variable {X : Cx} {k i : Nat} {x : Str} {p pos : Pos} {e : Expr} {es : List Expr} {t : TA}
theorem pe_callR {S : Addr → Sp → Prop} (A : ∀ f sp, S f sp → Held X.prog X.w X.K X.mg X.base k f sp) (hr : Room k X.A) (hN : X.N[i]? = some x) (hv : Vis X.env.scope x) (ha : PA X (e :: es) t)
    (hdb : (x == ("__debug__" : Str)) = false := by decide) (hcd : (x == ("__classdict__" : Str)) = false := by decide)
    (he : starEach (e :: es) X.env = (false, eval e X.env) :: starEach es X.env := by rfl) (hpl : (backTo pos (starEach es X.env)).any (·.1) = false := by rfl) :
    PE X (.Call (.Name x p) (e :: es) [] pos) (tCallR i S t) := by
  refine ⟨fun pins s σ H Q I h => ?_⟩
  obtain ⟨f, sp, h1, h2, h3⟩ := h
  exact (pe_callA (S := fun g => if g = f then some sp else none) (fun g sp' h => by
    split at h
    · rename_i e1
      cases h
      rw [e1]
      exact A f sp h2
    · cases h) hr hN hv ha hdb hcd he hpl).run pins s σ H Q I ⟨f, sp, h1, if_pos rfl, h3⟩
end
end Td
/-! A method whose first statement is super().__init__() with no more arguments. -/
namespace Td
open PySem PySem.Spec PyProof.Rows L2
/-- what is written of such a method: it stands at f in the class at C, its class cell at cc; g is the other class's __init__ -/
structure Sup (P : Program) (K : PySem.W.Frag) (qual : Str) (st : Stmt) (f C g : Addr) (fd : FuncData) : Prop where
  ex : ∃ (oc : Value) (od : Option Addr) (sl : Array (Option Value)) (kV doc pm : Value) (an : Option Addr) (ct : Value) (cc cda : Addr) (ccl : Value) (cdd : Option Addr) (vs : Array Value) (ccs : Array (Option Value)) (file : Str) (tf : Tok) (cl : Value) (cld : Option Addr) (csl : Array (Option Value)),
    fd = PySem.W.fnX "__init__" qual (defArgs st) (defBody st) (defScope st) [("__class__", cc)] .none kV doc pm an (.ref cda) ct ∧ K.lookup f = some ⟨oc, od, .func fd, sl⟩ ∧ PySem.W.codeIn K (.ref cda) qual = true ∧
    K.lookup cda = some ⟨ccl, cdd, .fields vs, ccs⟩ ∧ vs[2]? = some (.str file tf) ∧ ((P.main.file : Str) == file) = true ∧ K.lookup cc = some ⟨cl, cld, .cell (some (.ref C)), csl⟩
  cls : ∃ cd, PySem.W.clsIn K C = some cd
  mro : PySem.W.mroIn K C (.ref C) = some true
  up : PySem.W.ks_superIn K C C "__init__" = some (some (.ref g))
  ty : PySem.W.typeIn K (.ref g) = some (.type "function")
  fn : PySem.W.fnIn K g = true
  opq : PySem.W.nsIn K cStatics "thirdparty.any" = some none
  glob : PySem.W.nsIn K mainGlobals "super" = some none
  kp : PySem.W.keepIn K (.ref f) = true
def supNF (qual : Str) (st : Stmt) (cc cda : Addr) : NdefX.NF := ⟨"__init__", qual, defArgs st, defBody st, defScope st, [("__class__", cc)], cda⟩
theorem sup_tree {o : Expr} {m : Str} {ap cp : Pos} {env : PySem.Env} (hl : (ap.endLine == cp.line) = true) : eval (.Call (.Attribute o m ap) [] [] cp) env = (do
      let ov ← attributeBase o m env (eval o env)
      standAt ap.atName
      let (f, first) ← holding [ov] (getMethod ov m (plainOf o env))
      callWith cp f first (backTo cp (starEach [] env)) []) := by
  rw [arm_eval_Call]
  refine bind_congr fun ov => bind_congr fun _ => ?_
  exact mcall_line rfl hl
section
variable {P : Program} {w : World} {K : PySem.W.Frag} {mg : Str → Option Value} {base : Heap}
theorem Sup.binds {qual : Str} {st : Stmt} {f C g : Addr} {fd : FuncData} {ps : List Str} (F : Sup P K qual st f C g fd)
    (h : ∀ (kV doc pm : Value) (an : Option Addr) (cdv ct : Value) (cc : Addr) (us : List Value), us.length = ps.length → bindArgs (PySem.W.fnX "__init__" qual (defArgs st) (defBody st) (defScope st) [("__class__", cc)] .none kV doc pm an cdv ct) ⟨us, []⟩ = pure (ps.zip us)) : Binds K fd ps [] := by
  obtain ⟨oc, od, sl, kV, doc, pm, an, ct, cc, cda, ccl, cdd, vs, ccs, file, tf, cl, cld, csl, rfl, _⟩ := F.ex
  exact .all (h kV doc pm an (.ref cda) ct cc)
theorem fn_super {qual : Str} {st : Stmt} {f C g : Addr} {fd gd : FuncData} {N ps : List Str} {k : Nat} {sp spG : Sp} {p0 p1 ap cp ep : Pos} {rest : List Stmt} {ar : Arg} {us0 : List Str}
    (F : Sup P K qual st f C g fd) (hst : defBody st = .Expr (.Call (.Attribute (.Call (.Name "super" p0) [] [] p1) "__init__" ap) [] [] cp) ep :: rest)
    (S : NdefX.NScope N ps ["__class__"] (defScope st)) (hps : ps = ar.arg :: us0) (har : ((defArgs st).posonlyargs ++ (defArgs st).args).head? = some ar)
    (hline : (ap.endLine == cp.line) = true) (hks : (defScope st).names.lookup ("super" : Str) = some .globalImplicit) (htop : (P.main.scope.names.lookup ("super" : Str)).isSome = false)
    (G : FnOk P w K mg base CX0 k g gd [ar.arg] spG) (bG : Binds K gd [ar.arg] [])
    (len : ∀ vs H Q E, sp vs H Q E → vs.length = ps.length)
    (hbody : ∀ (A : Around) (outer : List PySem.Env) (s : Shared) (H : Hp) (vs : List V) (Q : VK) (E : XK) (cc cda : Addr), Room k (A.deeper (NdefX.envF (supNF qual st cc cda) f s.heap.objs.size)) → sp vs H Q E →
      ∃ (x dx : Addr) (fs : List (Str × V)) (vs' : List V), vs = .ref x :: vs' ∧ H x = some (.ins C dx fs) ∧ spG [.ref x] H (fun v H' => v = .non ∧
        ∃ t, PSs (NdefX.ncx CX0 P w K mg base N (supNF qual st cc cda) f A outer s H E) rest t ∧ t { nx := fun _ H' => Q .non H', rt := Q } (NdefX.startF N vs [none]) H') E0) :
    FnOk P w K mg base CX0 (k + 1) f fd ps sp := by
  refine ⟨len, fun A outer s H args us vs Q E hr e0 hb r hsp => ?_⟩
  obtain ⟨oc, od, sl, kV, doc, pm, an, ct, cc, cda, ccl, cdd, cvs, ccs, file, tf, cl, cld, csl, rfl, lk, hcd, lcd, hcv, hfile, lcc⟩ := F.ex
  have hl := len _ _ _ _ hsp
  have KX : K.In s.heap := e0.mod.kin.keeps fun b o e => (e0.bs b o e).1
  have lim : s.heap.NoLimit := e0.mod.nolimit.keeps fun b o e => (e0.bs b o e).1
  refine ks_codeAny_call_defAt hr.depth (KX _ _ lk) rfl lim (PySem.W.codeRec_of KX hcd) rfl hb S.nocell (fun ⟨n, _⟩ hy => S.par n (List.of_mem_zip hy).1) (fun h₁ hns kp => ?_) S.co S.gen S.kind
  show PySem.wpAt _ (A.deeper (NdefX.envF (supNF qual st cc cda) f s.heap.objs.size)) (.func (defBody st) (NdefX.envF (supNF qual st cc cda) f s.heap.objs.size)) (execs (defBody st) (NdefX.envF (supNF qual st cc cda) f s.heap.objs.size)) _ _ _
  have cells : NdefX.CellsAt (supNF qual st cc cda).cl ["__class__"] [none] s.heap H := by
    have one : ∀ y c, List.lookup y [(("__class__" : Str), cc)] = some c → y = "__class__" ∧ c = cc := fun y c e => by
      by_cases z : y = ("__class__" : Str)
      · subst z
        simp [List.lookup] at e
        exact ⟨rfl, e.symm⟩
      · have q : (y == ("__class__" : Str)) = false := by simpa using z
        simp [List.lookup, q] at e
    refine ⟨rfl, fun y c e => ?_, fun x y c e1 e2 => (one x c e1).1.trans (one y c e2).1.symm, fun i y e => ?_⟩
    · obtain ⟨_, rfl⟩ := one y c e
      exact ⟨(e0.bs _ _ (e0.mod.kin _ _ lcc)).2, some (.ref C), _, KX _ _ lcc, rfl⟩
    · cases i with
      | zero =>
        have ey : y = "__class__" := (Option.some.inj e).symm
        subst ey
        exact ⟨cc, by simp [supNF, List.lookup], fun v z => by simp at z⟩
      | succ n => simp at e
  have I : Inv (NdefX.ncx CX0 P w K mg base N (supNF qual st cc cda) f A outer s H E) [] (NdefX.startF N vs [none]) H { s with heap := h₁, toks := s.toks + (ps.zip us).length } := NdefX.inv_startN S hr.hd e0 hl r cells hns kp
  obtain ⟨x, dx, fs, vs', rfl, hx, hG⟩ := hbody A outer s H vs Q E cc cda (hr.deeper _) hsp
  cases r with
  | cons ru rr =>
    rename_i u0 us1
    obtain rfl : u0 = Value.ref x := ru
    have K1 : K.In h₁ := I.kIn
    obtain ⟨cd, hcls⟩ := F.cls
    obtain ⟨oD, hD1, hD2⟩ : ∃ oD, h₁.get? C = some oD ∧ oD.data = .cls cd := by
      unfold PySem.W.clsIn at hcls
      split at hcls
      · rename_i c d cd' sl' ho
        cases hcls
        exact ⟨_, K1 _ _ ho, rfl⟩
      · cases hcls
    obtain ⟨mA, O, _⟩ := ins_get I.hok hx
    obtain ⟨od1, J, _⟩ := O.look
    have nx : (NdefX.envF (supNF qual st cc cda) f s.heap.objs.size).kindOf "super" = some .globalImplicit := hks
    have nc : (NdefX.envF (supNF qual st cc cda) f s.heap.objs.size).kindOf "__class__" = some .free := S.frk _ (by simp)
    have ns : (NdefX.envF (supNF qual st cc cda) f s.heap.objs.size).kindOf ar.arg = some .local := S.par _ (by rw [hps]; simp)
    obtain ⟨mb, hb1, hb2⟩ := e0.mod.blt
    rw [hst]
    refine ks_wpAt_execs_cons (ks_wpAt_Expr_any ?_ I.quiet)
    refine ks_wpAt_MethodCall ?_ (sup_tree hline)
    refine ks_wpAt_super_base nx nc rfl rfl (K1 _ _ lk) rfl har rfl (K1 _ _ lcd) rfl hcv hfile htop ?_
    refine PySem.W.ks_loadName_global S.kind nx (Calls.loadGlobal_builtin (by exact e0.mod.glob.keeps I.bk) (PySem.W.mg_none_of e0.mod.kin e0.mod.glob F.glob) (by exact hb1.keeps I.bk) ((hb2 "super" (by decide)).trans (by decide +kernel : bootBuiltins "super" = some (.type "super"))) ⟨rfl, ?_⟩)
    refine wpAny_loadName_free S.kind nc rfl ⟨_, K1 _ _ lcc, rfl⟩ ?_
    refine wpAny_loadName_local S.kind ns hns (v := .ref x) ?_ ?_
    · rw [hps, List.zip_cons_cons, List.reverse_cons, List.lookup_append]
      have hn : (us0.zip us1).reverse.lookup ar.arg = none := by
        have nd := S.nd.sublist (List.take_sublist (ps.length + 1) N)
        have pre := S.pre
        rw [show (["__class__"] : List Str).length = 1 from rfl] at pre
        rw [pre, hps, List.cons_append] at nd
        exact NdefX.look_none fun v hv => (List.nodup_cons.mp nd).1 (List.mem_append_left _ (List.of_mem_zip (List.mem_reverse.mp hv)).1)
      rw [hn]
      simp [List.lookup]
    refine ks_wpAny_isType_cls hD1 hD2 ⟨rfl, ?_⟩
    refine ks_wpAny_call_super hD1 hD2 J.at_ J.cls (fun c e => by cases e) (PySem.W.looks_mroIn K1 F.mro) (fun h' eso k' => ?_)
    have K2 : K.In h' := K1.keeps k'
    have hgf : ∃ of, h'.get? g = some of ∧ of.cls = .type "function" := by
      have ht' : (K.lookup g).map (·.cls) = some (.type "function") := F.ty
      cases z : K.lookup g with
      | none => rw [z] at ht'; cases ht'
      | some of => rw [z] at ht'; exact ⟨of, K2 _ _ z, Option.some.inj ht'⟩
    obtain ⟨of, hof, hofc⟩ := hgf
    have hup := F.up
    unfold PySem.W.ks_superIn at hup
    rw [hcls] at hup
    refine ks_wpAny_getMethod_super eso (PySem.W.looks_opaque K2 F.opq) (l₀ := cd.mro) ?_ rfl K2 hup hof hofc (PySem.W.ks_ne K1 J hcls) rfl ?_
    · exact fun A Q E s k q => wpAny_bind ((PySem.W.looks_clsIn K2 hcls) A _ E s k (wpAny_pure q))
    have k3 : ∀ b o, h₁.get? b = some o → (h'.push { cls := .type "method", data := .fields #[.ref g, .ref x] }).get? b = some o := fun b o e => Heap.get?_push_of_some _ (k' b o e)
    have J2 := I.kept (t' := s.toks + (ps.zip (Value.ref x :: us1)).length + 1) k3
    refine PySem.W.callWith_M0 (g := g) (self := .ref x) (K := K) ⟨Heap.get?_push_at rfl rfl, J2.kIn⟩ F.fn (wpAny_call (ks_codeAny_call_bound (Heap.get?_push_at rfl rfl) ?_))
    refine codeAny_mono (G.run _ _ _ H ⟨[.ref x], []⟩ [.ref x] [.ref x] _ E0 (hr.deeper _) J2.env0 (bG _ [.ref x] J2.kIn rfl) (.cons rfl .nil) hG) fun r s' hq => ?_
    cases r with
    | error e => exact hq.elim
    | ok fl =>
      cases fl with
      | next => exact False.elim hq
      | brk => exact False.elim hq
      | cont => exact False.elim hq
      | ret u =>
        obtain ⟨v, H', J3, rv, ev, t, ht, hq3⟩ := J2.after hq
        refine PySem.wpAt_of_wpAny ?_
        refine wpAny_mono (ht.run [] s' _ H' _ J3 hq3) (fun fl s2 hs => ?_) fun e s2 hs => hs
        have fin : ∀ {σ' : L2.St} {H' : Hp} {v : V} {u : Value}, Inv (NdefX.ncx CX0 P w K mg base N (supNF qual st cc cda) f A outer s H E) [] σ' H' s2 → RelV v u → Q v H' → CE outer P w H s Q u s2 :=
          fun {σ' H' v u} J rv q => ⟨v, H', J.os, J.bare, J.base, J.hok, rv, q⟩
        cases fl with
        | ret u =>
          obtain ⟨v, σ', H', J, rv, q⟩ := hs
          exact fin J rv q
        | next =>
          obtain ⟨σ', H', J, q⟩ := hs
          exact fin (v := V.non) (u := Value.none) J rfl q
        | brk =>
          obtain ⟨_, _, _, q⟩ := hs
          exact False.elim q
        | cont =>
          obtain ⟨_, _, _, q⟩ := hs
          exact False.elim q
end
end Td
/-! Own exceptions of one field; several clauses with a name each; a datum in a tuple. -/
namespace Td
open PySem PySem.Spec PyProof.Rows L2
/-! ### a datum in a tuple of data -/
def rInDT (K : PySem.W.Frag) (neg : Bool) : R2 := fun x y H Q => ∃ d ds, Dp K H x d ∧ Dp K H y (.tuple ds) ∧ SeqAt.shaped d = true ∧ SeqAt.shaped (.tuple ds) = true ∧ Q (.bl (if neg then !(ds.any fun z => PyData.eqv z d) else ds.any fun z => PyData.eqv z d)) H
section
variable {X : Cx}
theorem op_inDT (hu : X.A.units + 65 < cLine) : OpR X (compareOp .In) (rInDT X.K false) := by
  rintro pins s σ H x y v u Q I rx ry ⟨d, ds, h1, h2, e1, e2, q⟩
  obtain ⟨la, ra⟩ := Dp.reads I d x v h1 rx
  obtain ⟨lb, rb⟩ := Dp.reads I (.tuple ds) y u h2 ry
  exact SeqAt.in_tuple_reads rb ra (SeqAt.canLay_of_shaped e2) (SeqAt.canLay_of_shaped e1) (room_in_shaped e1 hu) ⟨.bl _, H, I, rfl, q⟩
end
theorem units65 {k : Nat} {A : Around} (r : Room k A) : A.units + 65 < cLine := by have := r.un; omega
/-! ### an own exception of one field -/
def spExc (K : PySem.W.Frag) (C : Addr) : Str → Sp := fun f vs H Q _ => ∃ (a : Addr) (y : V), vs = [.ref a, y] ∧ H a = some (exo a C none) ∧
  ∀ dx H', H dx = none → dx ≠ a → H' = upd (upd H dx (exd dx [(f, y)])) a (exo a C (some dx)) → Q .non H'
/-- what a raise wants of the way out -/
def Rz (C : Addr) (f : Str) (y : V) (H : Hp) (E : XK) : Prop := ∀ (d : Addr) (H' : Hp), Same H H' → H d = none → H' d = some (.xd [(f, y)]) → E (.ref C) (some d) H'
theorem Rz.later {C : Addr} {f : Str} {y : V} {H H1 : Hp} {E : XK} (r : Rz C f y H E) (s : Same H H1) : Rz C f y H1 E := fun d H' s' hd e => by
  refine r d H' (s.trans s') ?_ e
  cases z : H d with
  | none => rfl
  | some o => rw [s _ _ z] at hd; cases hd
theorem one_field {H : Hp} {a C dx : Addr} {f : Str} {y : V} (ha : H a = none) (hx : dx ≠ a) :
    upd (del (upd (upd (upd H a (exo a C none)) dx (exd dx [(f, y)])) a (exo a C (some dx))) a) dx (.xd [(f, y)]) = upd H dx (.xd [(f, y)]) := by
  funext b
  by_cases h1 : b = dx
  · rw [h1, upd_same, upd_same]
  · rw [upd_ne h1, upd_ne h1]
    by_cases h2 : b = a
    · rw [h2, del_same, ha]
    · rw [del_ne h2, upd_ne h2, upd_ne h1, upd_ne h2]
/-- the making of such an exception, with its argument at hand -/
theorem made_one {K : PySem.W.Frag} {C : Addr} {f : Str} {y : V} {H : Hp} {Q : XK} (q : Rz C f y H Q) : [y].length ≤ 1000 ∧ ∀ a, H a = none → spExc K C f (.ref a :: ([y] ++ [])) (upd H a (exo a C none))
    (fun v H2 => v = .non ∧ ∃ (d : Addr) (fs : List (Str × V)), H2 a = some (exo a C (some d)) ∧ H2 d = some (exd d fs) ∧ H d = none ∧ Q (.ref C) (some d) (upd (del H2 a) d (.xd fs))) (fun _ _ _ => False) := by
  refine ⟨by show 1 ≤ 1000; decide, fun a ha => ⟨a, y, rfl, upd_same, fun dx H' hdx hne e => ⟨rfl, dx, [(f, y)], ?_, ?_, ?_, ?_⟩⟩⟩
  · rw [e]; exact upd_same
  · rw [e, upd_ne hne]; exact upd_same
  · rw [upd_ne hne] at hdx; exact hdx
  · have hd : H dx = none := by rw [upd_ne hne] at hdx; exact hdx
    rw [e, one_field ha hne]
    exact q dx _ (Same.new hd _) hd upd_same
/-! ### try: .. except A as e: .. except B as e: .. -/
abbrev SuiteT : Type := Addr → Value → Option Addr → TS
/-- D, slot i emptied ahead of it -/
def emptied (i : Nat) (D : Ends) : Ends := { nx := fun τ G => D.nx (τ.set i none) G, rt := D.rt, bk := fun τ G => D.bk (τ.set i none) G, ct := fun τ G => D.ct (τ.set i none) G }
def wAsL (K : PySem.W.Frag) (Wout : WX) (D : Ends) : List (Value × Nat × SuiteT) → WX
  | [] => Wout
  | q :: r => fun cls d σ H => ∃ b, PySem.W.exmOne K cls q.1 = some b ∧ (b = true → ∀ a, H a = none → q.2.2 a cls d (emptied q.2.1 D) (σ.set q.2.1 (some (.ref a))) H) ∧ (b = false → wAsL K Wout D r cls d σ H)
inductive Clauses (X : Cx) : List ExceptHandler → List (Value × Nat × SuiteT) → Prop
  | none : Clauses X [] []
  | more {x n : Str} {c : Value} {i : Nat} {t : SuiteT} {st : Stmt} {sts : List Stmt} {p p' : Pos} {hs : List ExceptHandler} {l : List (Value × Nat × SuiteT)} (hi : X.N[i]? = some n) (hn : X.env.kindOf n = some .local) (hc : L2.Names X x c)
      (go : ∀ (a : Addr) (o : Obj) (cls : Value) (d : Option Addr) (pn : List (Addr × Obj)), Zc cls d o → (∃ vs, o.data = .fields vs) → PSs (X.suite a ((a, o) :: pn)) (st :: sts) (t a cls d)) (r : Clauses X hs l) :
      Clauses X (.ExceptHandler (some (.Name x p)) (some n) (st :: sts) p' :: hs) ((c, i, t) :: l)
section
variable {X : Cx}
theorem ps_try_asL {body : List Stmt} {h : ExceptHandler} {hs : List ExceptHandler} {l : List (Value × Nat × SuiteT)} {pos : Pos} {tb : WX → TS} {Wout : WX} (h1 : X.stack = X.env :: X.outer) (h2 : X.env.frame = some X.env.locals) (nd : X.N.Nodup) (tk : Takes X Wout)
    (hb : ∀ (W : WX) (pn : List (Addr × Obj)) (xe : Value → Shared → Prop), Takes (X.tr pn xe) W → PassesOwn (model X.prog X.w) X.A X.env xe → PSs (X.tr pn xe) body (tb W))
    (hh : Clauses X (h :: hs) l) : PS X (.Try body (h :: hs) [] [] pos) (fun D σ H => tb (wAsL X.K Wout D l) D σ H) := by
  constructor
  intro pins s σ H D I want
  have okX := I.ok
  have frX : X.A.frames = some (X.env :: X.outer) := okX.frames.trans (congrArg some h1)
  refine wpAny_Try_except (wpAny_mono ((hb (wAsL X.K Wout D l) (X.pn ++ pins) (fun e s₁ => wpAny (model X.prog X.w) X.A (noteFrame e X.env) (fun _ s₂ => wpAny (model X.prog X.w) X.A (setFlight e none)
    (fun _ s₃ => wpAny (model X.prog X.w) X.A (handleBy e X.env (h :: hs)) (SP X pins D) X.xe s₃) X.xe s₂) X.xe s₁) (fun u s1 got => ?_) PassesOwn.looking).run [] s σ H D (I.toTry _) want) (fun fl s1 fin => ?_) fun _ _ z => z)
  · obtain ⟨a, B, sI, pins', τ, G, cls, d, rfl, J0, nb, up, sky, na, os, ag, w⟩ := got
    have J := J0.ofTry okX
    rw [h1] at sky
    show wpAny (model X.prog X.w) X.A (noteFrame (.ref a) X.env) _ _ _
    refine Sky.land Zc.steady frX h2 sky fun hp fly up1 => ?_
    have JP : Inv X pins τ G { s1 with heap := hp } := J.landed nb fly.1 (up.trans up1) os ag
    obtain ⟨o, vs, ho, hz, hd⟩ := fly.there
    have off : a ∉ frs (X.env :: X.outer) := fun m => by
      obtain ⟨_, o', e', nf⟩ := fly.2.2.1.mem m
      rw [ho] at e'
      cases e'
      exact nf _ hd
    have offL : a ≠ X.env.locals := fun z => off (List.mem_filterMap.mpr ⟨X.env, List.mem_cons_self, by rw [h2, z]⟩)
    have offF : a ∉ X.fs := fun m => by
      obtain ⟨ev, he, q⟩ := List.mem_filterMap.mp m
      exact off (List.mem_filterMap.mpr ⟨ev, List.mem_cons_of_mem _ he, q⟩)
    have SP0 := JP.suite ho hd na offL offF
    suffices all : ∀ {hs' : List ExceptHandler} {l' : List (Value × Nat × SuiteT)}, Clauses X hs' l' → wAsL X.K Wout D l' cls d τ G → wpAny (model X.prog X.w) X.A (handleBy (.ref a) X.env hs') (SP X pins D) X.xe { s1 with heap := hp } from all hh w
    intro hs' l' cl
    induction cl with
    | none =>
      intro w0
      refine wpAny_handleBy_nil ?_
      obtain ⟨_, _, _, o1, vs1, T, _, _, ho1, _, hd1, hv1, _⟩ := id fly
      unfold PySem.passOn
      refine wpAny_bind (wpAny_field ho1 hd1 hv1 ?_)
      rw [if_neg (show ¬ ((Value.ref T == Value.none) = true) by simp)]
      have away : wpAny (model X.prog X.w) X.A (setFlight (.ref a) X.env.frame) (fun _ s4 => wpAny (model X.prog X.w) X.A (throw (.ref a) : Sem Flow) (SP X pins D) X.xe s4) X.xe { s1 with heap := hp } := by
        rw [h2]
        exact HandSPX.setFlight_upZ fly fun hq kq uq => wpAny_throw (tk _ _ ⟨a, B, sI, pins, τ, G, cls, d, rfl, J, nb, (up.trans up1).trans uq, .inr (.inr (by rw [h1]; exact kq)), na, os, ag, w0⟩)
      first
        | exact wpAny_bind (wpAny_pure (wpAny_bind away))
        | exact wpAny_bind away
    | @more x n c i t st sts p p' hs2 l2 hi hn hc go r ih =>
      intro w0
      obtain ⟨b, hm, yes, no⟩ := w0
      refine wpAny_handleBy_cons (codeAny_handlers_test ?_) (by intro q; cases q)
      have tyA : PySem.W.Looks (model X.prog X.w) hp (typeOf (.ref a)) cls := fun _ _ _ _ k q => wpAny_typeOf_ref (k _ _ ho) (by rw [hz.1]; exact q)
      have mt := PySem.W.exm_one (M := model X.prog X.w) JP.kIn tyA hm
      have name : ∀ {Q : Value → Shared → Prop} {E : Value → Shared → Prop}, Q c { s1 with heap := hp } → wpAny (model X.prog X.w) (X.A.mark (some (.ref a))) (eval (.Name x p) X.env) Q E { s1 with heap := hp } := fun q => by
        rcases hc with ⟨hg, hdb, hm1 | ⟨hm1, hv1, hn1⟩⟩
        · exact ld_glob (X := X.suite a ((a, o) :: (X.pn ++ pins))) SP0 hg hm1 q hdb
        · exact ld_blt (X := X.suite a ((a, o) :: (X.pn ++ pins))) SP0 hg hm1 hv1 q hn1 hdb
      refine name (mt.here ?_)
      cases b with
      | false => exact ih (no rfl)
      | true =>
        refine codeAny_handlers_suite_as (HandSPX.lands_againZ fly fun hq fq uq => ?_)
        have JQ : Inv X pins τ G { s1 with heap := hq } := J.landed nb fq.1 ((up.trans up1).trans uq) os ag
        obtain ⟨oq, vq, hoq, hzq, hdq⟩ := fq.there
        refine store_ok (X := X.suite a ((a, oq) :: (X.pn ++ pins))) (v := .ref a) (JQ.suite hoq hdq na offL offF) nd hi (.inl hn) rfl (fun s5 S5 => ?_) (.inr hn)
        refine wpAny_mono ((go a oq cls d (X.pn ++ pins) hzq ⟨_, hdq⟩).run [] s5 _ G _ S5 (yes rfl a na)) (fun fl s6 e6 => ?_) fun _ _ z => z.elim
        have gone : ∀ {τ6 : L2.St} {G6 : Hp} {Q : Shared → Prop}, Inv (X.suite a ((a, oq) :: (X.pn ++ pins))) [] τ6 G6 s6 → (∀ s7, Inv X pins (τ6.set i none) G6 s7 → Q s7) →
            wpAny (model X.prog X.w) X.A (do bindName X.env n .none; unbindBehindTheSuite X.env n p') (fun _ s7 => Q s7) X.xe s6 := fun S6 hq => gone_ok (S6.unsuite okX) nd hi hn hq
        cases fl with
        | next => exact let ⟨_, _, S6, q6⟩ := e6; gone S6 fun _ J7 => ⟨_, _, J7, q6⟩
        | brk => exact let ⟨_, _, S6, q6⟩ := e6; gone S6 fun _ J7 => ⟨_, _, J7, q6⟩
        | cont => exact let ⟨_, _, S6, q6⟩ := e6; gone S6 fun _ J7 => ⟨_, _, J7, q6⟩
        | ret u => exact let ⟨_, _, _, S6, r6, q6⟩ := e6; gone S6 fun _ J7 => ⟨_, _, _, J7, r6, q6⟩
  · cases fl with
    | next => exact let ⟨τ, G, J, q⟩ := fin; wpAny_execs_nil ⟨τ, G, J.ofTry okX, q⟩
    | brk => exact let ⟨τ, G, J, q⟩ := fin; ⟨τ, G, J.ofTry okX, q⟩
    | cont => exact let ⟨τ, G, J, q⟩ := fin; ⟨τ, G, J.ofTry okX, q⟩
    | ret u => exact let ⟨v, τ, G, J, r, q⟩ := fin; ⟨v, τ, G, J.ofTry okX, r, q⟩
end
end Td
/-! Own exceptions of two fields. -/
namespace Td
open PySem PySem.Spec PyProof.Rows L2
def spExc2 (K : PySem.W.Frag) (C : Addr) (f1 f2 : Str) : Sp := fun vs H Q _ => ∃ (a : Addr) (y1 y2 : V), vs = [.ref a, y1, y2] ∧ H a = some (exo a C none) ∧
  ∀ dx H', H dx = none → dx ≠ a → H' = upd (upd (upd H dx (exd dx [(f1, y1)])) a (exo a C (some dx))) dx (exd dx [(f2, y2), (f1, y1)]) → Q .non H'
theorem two_fields {H : Hp} {a C dx : Addr} {f1 f2 : Str} {y1 y2 : V} (ha : H a = none) (hx : dx ≠ a) :
    upd (del (upd (upd (upd (upd H a (exo a C none)) dx (exd dx [(f1, y1)])) a (exo a C (some dx))) dx (exd dx [(f2, y2), (f1, y1)])) a) dx (.xd [(f2, y2), (f1, y1)]) = upd H dx (.xd [(f2, y2), (f1, y1)]) := by
  funext b
  by_cases h1 : b = dx
  · rw [h1, upd_same, upd_same]
  · rw [upd_ne h1, upd_ne h1]
    by_cases h2 : b = a
    · rw [h2, del_same, ha]
    · rw [del_ne h2, upd_ne h1, upd_ne h2, upd_ne h1, upd_ne h2]
theorem made_two {K : PySem.W.Frag} {C : Addr} {f1 f2 : Str} {y1 y2 : V} {H : Hp} {Q : XK} (q : ∀ (d : Addr) (H' : Hp), Same H H' → H d = none → H' d = some (.xd [(f2, y2), (f1, y1)]) → Q (.ref C) (some d) H') :
    [y1, y2].length ≤ 1000 ∧ ∀ a, H a = none → spExc2 K C f1 f2 (.ref a :: ([y1, y2] ++ [])) (upd H a (exo a C none))
    (fun v H2 => v = .non ∧ ∃ (d : Addr) (fs : List (Str × V)), H2 a = some (exo a C (some d)) ∧ H2 d = some (exd d fs) ∧ H d = none ∧ Q (.ref C) (some d) (upd (del H2 a) d (.xd fs))) (fun _ _ _ => False) := by
  refine ⟨by show 2 ≤ 1000; decide, fun a ha => ⟨a, y1, y2, rfl, upd_same, fun dx H' hdx hne e => ⟨rfl, dx, [(f2, y2), (f1, y1)], ?_, ?_, ?_, ?_⟩⟩⟩
  · rw [e, upd_ne (Ne.symm hne)]; exact upd_same
  · rw [e]; exact upd_same
  · rw [upd_ne hne] at hdx; exact hdx
  · have hd : H dx = none := by rw [upd_ne hne] at hdx; exact hdx
    rw [e, two_fields ha hne]
    exact q dx _ (Same.new hd _) hd upd_same
/-! ### isinstance(e, c) of the error that a suite holds -/
def rIsX (K : PySem.W.Frag) (a : Addr) (cls : Value) (d : Option Addr) (C : Addr) : List V → Hp → VK → Prop := fun xs H Q => cls = .ref C ∧ ∃ (dd : Addr) (fs : List (Str × V)) (c : V) (cv : Value) (b : Bool), d = some dd ∧ H dd = some (.xd fs) ∧ xs = [.ref a, c] ∧ (∀ u, RelV c u → u = cv) ∧
  PySem.W.kitOne K (.ref C) cv = some b ∧ Q (.bl b) H
theorem call_isX {X : Cx} {a C : Addr} {oe : Obj} {cls : Value} {d : Option Addr} {pn : List (Addr × Obj)} (T : ExcC X.K C) (hz : Zc cls d oe) (hf : ∃ vs, oe.data = .fields vs) : CallR (X.suite a ((a, oe) :: pn)) (.builtin "isinstance") (rIsX X.K a cls d C) := by
  rintro pins s σ H xs us Q I r ⟨rfl, dd, fs, c, cv, b, rfl, eH, rfl, hcv, hk, q⟩
  cases r with
  | cons r1 rr =>
    cases rr with
    | cons r2 rr =>
      cases rr
      cases r1
      obtain rfl := hcv _ r2
      obtain ⟨live, _⟩ := I.pin (a, oe) (List.mem_append_left _ List.mem_cons_self)
      obtain ⟨vs, hv⟩ := hf
      have there : ObjOk X.prog X.w H s.heap dd (.xd fs) := I.hok dd _ eH
      obtain ⟨mA, ns, _⟩ := there
      obtain ⟨od, hod, _⟩ := lookIn_ns ns
      have J : PySem.W.InstAt s.heap a oe C (some od) := ⟨live, hz.1, by unfold PySem.W.notCls; rw [hv] <;> rfl, by rw [hz.2]; exact hod⟩
      have cl : (PySem.W.clsIn X.K C).isSome = true := by
        obtain ⟨cd, hc, _⟩ := PySem.W.any_some T.hd
        rw [hc]
        rfl
      exact PySem.W.kia_one (PySem.W.kitx_exc cl T.hg T.hk T.hs T.ha T.hn T.ht T.hm) I.kIn J hk (fun z => nomatch z) fun tk => ⟨.bl b, H, I.kept (t' := tk) fun _ _ z => z, rfl, q⟩
/-! ### C(..) and o.m(..) in a body whose errors are caught -/
/-- a new object of the class at C, its errors at the slots -/
def tMakeAt (C : Addr) (sp : Sp) (E : L2.St → XK) (t : TA) : TE := fun σ H Q => t σ H fun vs H1 => ∀ x dx, H1 x = none → H1 dx = none → dx ≠ x →
  sp (.ref x :: vs) (upd (upd H1 dx (.own x)) x (.ins C dx [])) (fun v H2 => v = .non ∧ Q (.ref x) H2) (E σ)
def tMethAt (C : Addr) (m : Str) (sp : Sp) (E : L2.St → XK) (ta : TE) (t : TA) : TE := fun σ H Q => ta σ H fun x H1 => ∃ a dx fs, x = .ref a ∧ H1 a = some (.ins C dx fs) ∧ fs.lookup m = none ∧ t σ H1 fun vs H2 => sp (x :: vs) H2 Q (E σ)
section
variable {X : Cx} {CX : CXT} {k : Nat} {f C : Addr} {fd : FuncData} {ps : List Str} {sp : Sp} {E : L2.St → XK} {x m : Str} {p pos apos : Pos} {e o : Expr} {es : List Expr} {ta : TE} {t : TA}
theorem run_makeAt {pins : List (Addr × Obj)} {σ : L2.St} {H : Hp} {s : Shared} {Q : VK} {us : List Value} {vs : List V} (M : Mk X.K C f) (F : FnOk X.prog X.w X.K X.mg X.base CX k f fd ps sp) (room : Room (k + 1) X.A) (bd : Binds X.K fd ps []) (go : PassesAt CX X σ (E σ))
    (I : Inv X pins σ H s) (r : Vals vs us) (want : ∀ x dx, H x = none → H dx = none → dx ≠ x → sp (.ref x :: vs) (upd (upd H dx (.own x)) x (.ins C dx [])) (fun v H2 => v = .non ∧ Q (.ref x) H2) (E σ)) :
    wpAny (model X.prog X.w) X.A (call (.ref C) us) (EP X pins σ Q) X.xe s := by
  let n := s.heap.objs.size
  have now := want (n + 1) n (I.hok.fresh (Nat.le_succ _)) (I.hok.fresh (Nat.le_refl _)) (Nat.ne_of_lt (Nat.lt_succ_self _))
  have J := Inv.made (C := C) I
  have both : Vals (V.ref (n + 1) :: vs) (Value.ref (n + 1) :: us) := .cons rfl r
  have many : ((Value.ref (n + 1) :: us) ++ []).length = ps.length := by
    rw [List.append_nil, ← both.length]
    exact F.len _ _ _ _ now
  have bt := bd _ (Value.ref (n + 1) :: us) J.kIn many
  rw [List.append_nil] at bt
  have ran := F.run _ X.stack _ _ ⟨Value.ref (n + 1) :: us, []⟩ (Value.ref (n + 1) :: us) _ _ (E σ) (room.make C us []) (J.env0.make C us []) bt both now
  refine wpAny_call (make_map (f := f) I.kIn M.makes M.init (beq_iff_eq.mp M.fn) (codeAny_mono ran fun res s' end_ => ?_))
  match res, end_ with
  | .error e, end_ => exact go pins _ _ e s' J end_
  | .ok (.ret u), end_ =>
    obtain ⟨v, H', L, rv, rfl, q3⟩ := J.after end_
    exact ⟨rv, V.ref (n + 1), H', L, rfl, q3⟩
  | .ok .next, end_ => exact False.elim end_
  | .ok .brk, end_ => exact False.elim end_
  | .ok .cont, end_ => exact False.elim end_
theorem pe_makeAt (M : Mk X.K C f) (F : FnOk X.prog X.w X.K X.mg X.base CX k f fd ps sp) (room : Room (k + 1) X.A) (hg : Gl X x) (hm : X.mg x = some (.ref C)) (bd : Binds X.K fd ps []) (go : ∀ σ, PassesAt CX X σ (E σ))
    (ha : PA X (e :: es) t) (hdb : (x == ("__debug__" : Str)) = false := by decide) (he : starEach (e :: es) X.env = (false, eval e X.env) :: starEach es X.env := by rfl) (hpl : (backTo pos (starEach es X.env)).any (·.1) = false := by rfl) :
    PE X (.Call (.Name x p) (e :: es) [] pos) (tMakeAt C sp E t) :=
  ⟨fun pins s σ H Q I want => wpAny_Call_Name_kw (ld_glob I hg hm (PySem.W.callWith_K (h₀ := X.base) I.ok.mod.kin M.kp (thn (ha.run pos pins s σ H _ I want) fun us s1 ⟨vs, H1, J, r, q⟩ => ⟨J.kIn, run_makeAt M F room bd (go σ) J r q⟩) he hpl) hdb)⟩
theorem pe_methAt {pl : Sem Bool} (he : PE X o ta) (c : Cls X.K C) (hm : Meth X.K C m f) (F : FnOk X.prog X.w X.K X.mg X.base CX k f fd ps sp) (room : Room k X.A) (bd : Binds X.K fd ps []) (go : ∀ σ, PassesAt CX X σ (E σ)) (ha : PA X (e :: es) t)
    (hst : starEach (e :: es) X.env = (false, eval e X.env) :: starEach es X.env := by rfl) (hpl : (backTo pos (starEach es X.env)).any (·.1) = false := by rfl)
    (ht : eval (.Call (.Attribute o m apos) (e :: es) [] pos) X.env = (eval o X.env >>= fun ov => standAt apos.atName >>= fun _ => holding [ov] (getMethod ov m pl) >>= fun q => callWith pos q.1 q.2 (backTo pos (starEach (e :: es) X.env)) (backToKw pos (keywordEach [] X.env))) := by rfl) :
    PE X (.Call (.Attribute o m apos) (e :: es) [] pos) (tMethAt C m sp E ta t) := by
  refine ⟨fun pins s σ H Q I want => PySem.W.methodCall_KW (pl := pl) (thn (he.run pins s σ H _ I want) fun u s1 ⟨y, H1, J, ry, rest⟩ => ?_) ht⟩
  obtain ⟨a, dx, fs, rfl, ea, l, q⟩ := rest
  cases ry
  refine getmeth_ok J ea c hm l (PySem.W.callWith_K (first := [.ref a]) (h₀ := X.base) J.ok.mod.kin hm.kp (thn (ha.run pos pins s1 σ H1 _ J q) fun us s2 ⟨vs, H2, L, r, q2⟩ => ⟨L.kIn, ?_⟩) hst hpl)
  exact run_fnS (us := .ref a :: us) (vs := .ref a :: vs) F room bd (go σ) L (.cons rfl r) q2
end
/-! ### == by an own __eq__, either answer -/
def rEqO (C : Addr) (sp : Sp) : R2 := fun x y H Q => ∃ (a b dx dy : Addr) (fs gs : List (Str × V)), x = .ref a ∧ y = .ref b ∧ H a = some (.ins C dx fs) ∧ H b = some (.ins C dy gs) ∧ sp [.ref a, .ref b] H (fun v H' => ∃ r, v = .bl r ∧ Q (.bl r) H') E0
theorem op_eqO {X : Cx} {k : Nat} {f C : Addr} {fd : FuncData} {ps : List Str} {sp : Sp} (F : FnOk X.prog X.w X.K X.mg X.base CX0 k f fd ps sp) (own : PySem.W.findIn X.K (.ref C) "__eq__" = some (some (.ref f))) (fun_ : PySem.W.isFn X.K (.ref f) = true)
    (bd : Binds X.K fd ps []) (room : Room k X.A) : OpR X (compareOp .Eq) (rEqO C sp) := by
  rintro pins s σ H x y v u Q I rx ry ⟨a, b, dx, dy, fs, gs, rfl, rfl, ea, eb, want⟩
  cases rx
  cases ry
  obtain ⟨_, ja, _⟩ := ins_get I.hok ea
  obtain ⟨_, jb, _⟩ := ins_get I.hok eb
  obtain ⟨_, la, _⟩ := ja.look
  obtain ⟨_, lb, _⟩ := jb.look
  obtain ⟨_, frs_⟩ := I.fr
  show wpAny _ _ (richCompare .Eq (.ref a) (.ref b)) _ _ _
  refine PySem.W.cmp_K (op := .Eq) (tb := .ref C) room.units0 frs_ I.ok.mod.kin la lb.type (by simp [PySem.W.notFirst]) own fun_ ?_
  refine wpAny_mono (run_fn (vs := [.ref a, .ref b]) (us := [.ref a, .ref b]) F room bd .nil pass0 I (.cons rfl (.cons rfl .nil)) want) (fun u s' got => ?_) fun _ _ z => z
  obtain ⟨v, H', J, rv, r, rfl, q⟩ := got
  cases rv
  exact ⟨.bl r, H', J, rfl, q⟩
end Td
/-! != of two objects of a class that has an own == alone. -/
namespace Td
open PySem PySem.Spec PyProof.Rows L2
section
variable {prog : Program} {w : World} {A : Around} {E : Value → Shared → Prop} {s : Shared} {K : PySem.W.Frag} {x C f : Addr} {ox : Obj} {od : Option Obj} {b : Value}
theorem neCheck (X : K.In s.heap) (I : PySem.W.InstAt s.heap x ox C od) (hs : PySem.W.subIn K (.ref C) (.type "object") = some true) {Q : Unit → Shared → Prop} (hq : Q () s) :
    wpAny (model prog w) A (checkBuiltinCall "object.__ne__" ⟨[.ref x, b], []⟩) Q E s := by
  simp only [checkBuiltinCall, F.cmpKind_ne, F.cmpSplit_ne]
  refine wpAny_bind ?_
  unfold isInstance
  refine wpAny_bind (I.type.here ?_)
  refine (PySem.W.looks_subIn X hs).here ?_
  cases hsig : Manifest.signature? "object.__ne__" with
  | none => exact wpAny_pure hq
  | some sig =>
    have ha := F.cmpArgs_ne (.ref x) b
    simp only [argsOk, hsig] at ha
    have h2 : Bind.checkArgs "object.__ne__" sig ⟨[.ref x, b], []⟩ = pure () := ha
    show wpAny _ A (Bind.checkArgs "object.__ne__" sig ⟨[.ref x, b], []⟩) Q E _
    rw [h2]; exact wpAny_pure hq
theorem neEntry (X : K.In s.heap) (I : PySem.W.InstAt s.heap x ox C od) (hs : PySem.W.findIn K (.ref C) "__eq__" = some (some (.ref f))) (hf : PySem.W.isFn K (.ref f) = true) (hu : A.units < cLine) {Q : Fin → Shared → Prop}
    (h : wpAny (model prog w) A (call (.ref f) [.ref x, b]) (fun v s' => ∃ r, v = .bool r ∧ Q (.done (.ret (.bool (!r)))) s') E s) :
    wpAny (model prog w) A (Builtin.«object.__ne__» ⟨[.ref x, b], []⟩) Q E s := by
  unfold Builtin.«object.__ne__»
  repeat (first
    | with_reducible refine wpAny_cRoomFor hu ?_
    | (refine wpAny_bind (m := callSpecialIfBound? (.ref x) (Str.ofString "__eq__") [b])
        (PySem.W.ifBound_K X I hs hf (wpAny_mono h (fun r s' hr => by
          obtain ⟨r, rfl, hq⟩ := hr
          repeat (first | exact hq | exact wpAny_pure hq | exact wpAny_truthy_bool hq | (refine wpAny_bind (m := truthy (.bool _)) (wpAny_truthy_bool ?_)) | wp_step)) fun _ _ e => e)))
    | wp_step)
theorem neBound (X : K.In s.heap) (I : PySem.W.InstAt s.heap x ox C od) (hn : PySem.W.findIn K (.ref C) "__ne__" = some (some (.builtin "object.__ne__"))) {Q : Option Value → Shared → Prop}
    (h : wpAny (model prog w) A (call (.builtin "object.__ne__") [.ref x, b]) (fun v => Q (some v)) E s) : wpAny (model prog w) A (callSpecialIfBound? (.ref x) "__ne__" [b]) Q E s := by
  simp only [callSpecialIfBound?, bindSpecialIfBound?]
  refine wpAny_holding (wpAny_bind (wpAny_bind (wpAny_bind (I.type.here ((PySem.W.looks_findIn X hn).here ?_)))))
  simp only [F.cmp_object.ne.bind]
  refine wpAny_bind (wpAny_askSetting (wpAny_ite ?_))
  have fin : wpAny (model prog w) A (call (.builtin "object.__ne__") ([.ref x] ++ [b]) >>= fun v => pure (some v)) Q E s := wpAny_bind (wpAny_mono h (fun v s' h' => wpAny_pure h') fun _ _ h' => h')
  split
  · exact wpAny_bind (wpAny_pure (wpAny_pure fin))
  · exact wpAny_tryCatch (wpAny_bind (wpAny_pure (wpAny_pure fin)))
/-- x != b -/
theorem neCmp {y : Addr} (X : K.In s.heap) (I : PySem.W.InstAt s.heap x ox C od) (hb : PySem.W.Looks (model prog w) s.heap (typeOf (.ref y)) (.ref C)) (hn : PySem.W.findIn K (.ref C) "__ne__" = some (some (.builtin "object.__ne__")))
    (ho : PySem.W.subIn K (.ref C) (.type "object") = some true) (hs : PySem.W.findIn K (.ref C) "__eq__" = some (some (.ref f))) (hf : PySem.W.isFn K (.ref f) = true) (hu : A.units + 1 < cLine) {Q : Value → Shared → Prop}
    (h : wpAny (model prog w) A.in1 (call (.ref f) [.ref x, .ref y]) (fun v s' => ∃ r, v = .bool r ∧ Q (.bool (!r)) s') E s) : wpAny (model prog w) A (richCompare .NotEq (.ref x) (.ref y)) Q E s := by
  have one : wpAny (model prog w) A (tryCompare (.ref x) "__ne__" (.ref y)) (fun r s' => ∃ r', r = some (.bool r') ∧ Q (.bool r') s') E s := by
    unfold tryCompare
    refine wpAny_bind (neBound X I hn (wpAny_call (codeAny_call_builtin F.cmp_object.ne.plain F.cmpEntry_ne (neCheck X I ho (neEntry (A := A.in1) X I hs hf hu (wpAny_mono h (fun v s' hv => ?_) fun _ _ e => e))))))
    obtain ⟨r, rfl, hq⟩ := hv
    first | exact ⟨_, rfl, wpAny_pure ⟨_, rfl, hq⟩⟩ | exact ⟨_, rfl, wpAny_pure (wpAny_pure ⟨_, rfl, hq⟩)⟩
  unfold richCompare
  simp only [oneThing_ref]
  refine wpAny_holding (wpAny_bind (wpAny_cRoomFor (Nat.lt_of_succ_lt hu) ?_))
  rw [cmpInfo_NotEq]
  dsimp only
  refine wpAny_bind (I.type.here (wpAny_bind (hb.here ?_)))
  rw [show (Value.ref C != Value.ref C) = false from by simp]
  simp only [Bool.false_eq_true, if_false]
  refine wpAny_bind (wpAny_pure ?_)
  simp only [Bool.false_eq_true, if_false]
  refine wpAny_bind (wpAny_mono one (fun r s' hv => ?_) fun _ _ e => e)
  obtain ⟨r', rfl, hq⟩ := hv
  exact wpAny_pure hq
end
theorem op_neO {X : Cx} {k : Nat} {f C : Addr} {fd : FuncData} {ps : List Str} {sp : Sp} (F : FnOk X.prog X.w X.K X.mg X.base CX0 k f fd ps sp) (own : PySem.W.findIn X.K (.ref C) "__eq__" = some (some (.ref f))) (fun_ : PySem.W.isFn X.K (.ref f) = true)
    (hn : PySem.W.findIn X.K (.ref C) "__ne__" = some (some (.builtin "object.__ne__"))) (ho : PySem.W.subIn X.K (.ref C) (.type "object") = some true) (bd : Binds X.K fd ps []) (room : Room (k + 1) X.A) :
    OpR X (compareOp .NotEq) (fun x y H Q => rEqO C sp x y H fun v H' => ∃ r, v = .bl r ∧ Q (.bl (!r)) H') := by
  rintro pins s σ H x y v u Q I rx ry ⟨a, b, dx, dy, fs, gs, rfl, rfl, ea, eb, want⟩
  cases rx
  cases ry
  obtain ⟨_, ja, _⟩ := ins_get I.hok ea
  obtain ⟨_, jb, _⟩ := ins_get I.hok eb
  obtain ⟨_, la, _⟩ := ja.look
  obtain ⟨_, lb, _⟩ := jb.look
  obtain ⟨_, frs_⟩ := I.fr
  have X0 := I.kIn
  show wpAny _ _ (richCompare .NotEq (.ref a) (.ref b)) _ _ _
  refine neCmp X0 la lb.type hn ho own fun_ (by have := room.un; omega) ?_
  have want2 : sp ([.ref a, .ref b] ++ []) H (fun v H' => ∃ r, v = .bl r ∧ ∃ r', V.bl r = .bl r' ∧ Q (.bl (!r')) H') E0 := want
  have r2 : Vals ([V.ref a, .ref b] ++ []) ([Value.ref a, .ref b] ++ []) := .cons rfl (.cons rfl .nil)
  have hl : ([Value.ref a, .ref b] ++ []).length = ps.length := by rw [← r2.length]; exact F.len _ _ _ _ want2
  refine wpAny_call (codeAny_mono (F.run X.A.in1 X.stack s H ⟨[.ref a, .ref b], []⟩ ([.ref a, .ref b] ++ []) ([.ref a, .ref b] ++ []) _ _ room.in1 I.env0.in1 (bd s [.ref a, .ref b] I.kIn hl) r2 want2) fun r s' hq => ?_)
  cases r with
  | error e => exact False.elim hq
  | ok fl =>
    cases fl with
    | ret u =>
      obtain ⟨v, H', J, rv, r, rfl, r', e, q⟩ := I.after hq
      cases e
      cases rv
      exact ⟨_, rfl, .bl (!r), H', J, rfl, q⟩
    | next => exact False.elim hq
    | brk => exact False.elim hq
    | cont => exact False.elim hq
end Td
/-! A tuple made by the program, known to have no own dict: its method index. -/
namespace Td
open PySem PySem.Spec PyProof.Rows L2
def FzT (H : Hp) (a : Addr) (xs : List V) : Prop := ∃ o : Obj, H a = some (.frz o (.tup xs)) ∧ o.dict = none
section
variable {K : PySem.W.Frag} {H H' : Hp} {a D st : Addr} {xs : List V}
theorem FzT.sq (h : FzT H a xs) : SqT K H a xs := by
  obtain ⟨o, e, _⟩ := h
  exact .inl (.inr ⟨o, e⟩)
theorem FzT.same (s : Same H H') (h : FzT H a xs) : FzT H' a xs := let ⟨o, e, d⟩ := h; ⟨o, s _ _ e, d⟩
theorem FzT.keep (k : Keep st H H') (n : a ≠ st) (h : FzT H a xs) : FzT H' a xs := let ⟨o, e, d⟩ := h; ⟨o, k _ _ n e, d⟩
theorem FzT.tk (k : TK H H') (h : FzT H a xs) : FzT H' a xs := let ⟨o, e, d⟩ := h; ⟨o, k.2 _ _ _ e, d⟩
end
section
variable {X : Cx}
/-- tuple(xs), xs a list: a new tuple as it stands -/
theorem call_tuple_ofF : CallR X (.type "tuple") (fun xs H Q => ∃ p ys, xs = [.ref p] ∧ SqL X.K H p ys ∧ ∀ (o : Obj) (l : Addr), o.dict = none → H l = none → Q (.ref l) (upd H l (.frz o (.tup ys)))) := by
  intro pins s σ H xs us Q I r h
  obtain ⟨p, ys, rfl, hq, q⟩ := h
  obtain ⟨u, rfl, rx⟩ := vals1 r
  cases rx
  obtain ⟨its, r', pl, hz⟩ := I.list hq
  have hlen := r'.length
  refine call_tuple_list pl.isList (fun h' kp => ?_) (by simp only [List.size_toArray] <;> omega)
  have I1 : Inv X pins σ H { s with heap := h' } := I.kept (t' := s.toks) kp
  have I2 : Inv X pins σ (upd H h'.objs.size (.frz { cls := .type "tuple", data := .seq its.toArray } (.tup ys))) { s with heap := h'.push { cls := .type "tuple", data := .seq its.toArray } } :=
    I1.laid (t' := s.toks) (fun b o e => Heap.get?_push_of_some _ e) (Nat.le_refl _) (show ObjOk X.prog X.w _ _ _ (.frz _ (.tup ys)) from ⟨Heap.get?_push_size _ rfl, hz, its, r', IsTup.new _ _⟩)
  exact ⟨.ref h'.objs.size, _, I2, rfl, q _ _ rfl (I1.hok.fresh (Nat.le_refl _))⟩
def tTIdx (K : PySem.W.Frag) (to : TE) (t : TA) : TE := fun σ H Q => to σ H fun x H1 => ∃ a us, x = .ref a ∧ FzT H1 a us ∧ t σ H1 fun xs H2 => ∃ p, ∃ ys : List Str, ∃ z j, x = .ref p ∧ xs = [.str z] ∧ SqT K H2 p (ys.map V.str) ∧ ys[j]? = some z ∧ (∀ m, m < j → ys[m]? ≠ some z) ∧ Q (.int (j : Nat)) H2
variable {o e : Expr} {es : List Expr} {to : TE} {t : TA} {apos cpos : Pos}
theorem pe_tidx (ho : PE X o to) (ha : PA X (e :: es) t)
    (hbase : attributeBase o "index" X.env (eval o X.env) = eval o X.env := by rfl)
    (hfew : ((backTo cpos (starEach (e :: es) X.env)).all (fun x => !x.1) && (backToKw cpos (keywordEach [] X.env)).all (fun x => x.1.isSome)
      && decide ((e :: es).length + ([] : List Keyword).length + (if ([] : List Keyword).isEmpty then 0 else 1) < 30)) = true := by rfl)
    (hline : (apos.endLine == cpos.line) = true := by rfl) (hs : starEach (e :: es) X.env = (false, eval e X.env) :: starEach es X.env := by rfl) (hplain : (backTo cpos (starEach es X.env)).any (·.1) = false := by rfl) :
    PE X (.Call (.Attribute o "index" apos) (e :: es) [] cpos) (tTIdx X.K to t) := by
  refine ⟨fun pins s σ H Q I h => ?_⟩
  refine wpAny_Call_method_late hbase hfew hline rfl (thn (ho.run pins s σ H _ I h) fun v s1 ⟨x, H1, I1, r1, q1⟩ => ?_)
  obtain ⟨a, us, rfl, ⟨ob, eo, od⟩, q1⟩ := q1
  cases r1
  obtain ⟨e1, _, its, _, o2, e2, hc, _⟩ := I1.hok a _ eo
  rw [e1] at e2
  cases e2
  have h1 : s1.TypeIs (.ref a) "tuple" := ⟨ob, e1, hc⟩
  have h2 : ∀ b, Value.ref a = .ref b → ∃ ob, s1.heap.get? b = some ob ∧ ob.dict = none := fun b z => by cases z; exact ⟨ob, e1, od⟩
  refine ⟨"tuple", "tuple.index", PySem.F.plainAttrs_tuple, PySem.F.slot_tuple_index, PySem.F.type_tuple_index, h1, h2, ?_⟩
  have hA := ha.run cpos pins s1 σ H1 _ I1 q1
  rw [hs] at hA ⊢
  refine Calls.callWith_builtin (by show (false || (backTo cpos (starEach es X.env)).any (·.1)) = false; rw [hplain] <;> rfl) (Calls.evalArgs_plain ?_)
  exact thn hA fun us s2 ⟨vs, H2, I2, r2, q2⟩ => mt_tup_index pins s2 σ H2 (.ref a) vs (.ref a) us Q I2 rfl r2 q2
end
/-- the parts of a program as they stand, the sources known as a tuple without an own dict -/
def DataX (K : PySem.W.Frag) (H : Hp) (v : V) (ws srcs : List Str) (dd de : PyData) : Prop :=
  ∃ (pa aw as : Addr) (vd ve : V), v = .ref pa ∧ SqT K H pa [.ref aw, .ref as, vd, ve] ∧ SqT K H aw (ws.map V.str) ∧ FzT H as (srcs.map V.str) ∧ Tn K H vd dd ∧ Tn K H ve de
section
variable {K : PySem.W.Frag} {H H' : Hp} {v : V} {ws srcs : List Str} {dd de : PyData}
theorem DataX.tk (k : TK H H') (h : DataX K H v ws srcs dd de) : DataX K H' v ws srcs dd de := by
  obtain ⟨pa, aw, as, vd, ve, e, h1, h2, h3, h4, h5⟩ := h
  exact ⟨pa, aw, as, vd, ve, e, SqT.tk k h1, SqT.tk k h2, h3.tk k, Tn.keep k h4, Tn.keep k h5⟩
theorem DataX.same (s : Same H H') (h : DataX K H v ws srcs dd de) : DataX K H' v ws srcs dd de := h.tk (TK.of_same s)
theorem DataX.tn (h : DataX K H v ws srcs dd de) : Tn K H v (.tuple [.tuple (ws.map PyData.str), .tuple (srcs.map PyData.str), dd, de]) := by
  obtain ⟨pa, aw, as, vd, ve, rfl, h1, h2, h3, h4, h5⟩ := h
  exact .tup h1 (.cons (.tup h2 (TnAll.strs _)) (.cons (.tup h3.sq (TnAll.strs _)) (.cons h4 (.cons h5 .nil))))
end
end Td
/-! Walks of a comprehension with two iterables: the body stays unread. -/
namespace Td
open PySem PySem.Spec PyProof.Rows L2
section
variable {K : PySem.W.Frag} {a : Addr} {us : List V} {B : (Hp → Prop) → V → Hp → Prop} {H0 : Hp} {End : Hp → Prop}
theorem walk_list (J : Nat → Hp → Prop) (start : J 0 H0) (there : ∀ i H, i ≤ us.length → J i H → SqL K H a us) (turn : ∀ i x H, us[i]? = some x → J i H → B (J (i + 1)) x H) (over : ∀ H, J us.length H → End H) :
    ∃ W : Nat → Nat → Hp → Prop, (∃ m, W 0 m H0) ∧ ∀ i m H, W i m H → ((Itl K a).stop i H ∧ End H) ∨ ((Itl K a).go i H ∧ ∃ Nx : Hp → Prop, (∀ H', Nx H' → ∃ m', m' < m ∧ W (i + 1) m' H') ∧ ∀ x H', (Itl K a).yld i H x H' → B Nx x H') := by
  refine ⟨fun i m H => i ≤ us.length ∧ m + i = us.length ∧ J i H, ⟨us.length, Nat.zero_le _, rfl, start⟩, fun i m H ⟨le, em, j⟩ => ?_⟩
  have here := there i H le j
  rcases Nat.lt_or_eq_of_le le with lt | eq
  · exact .inr ⟨⟨us, us[i], here, List.getElem?_eq_getElem lt⟩, J (i + 1), fun H' j' => ⟨m - 1, by omega, by omega, by omega, j'⟩, fun x H' y => by
      cases y.1
      exact turn i x H (y.2 us here) j⟩
  · refine .inl ⟨⟨us, here, by omega⟩, over H ?_⟩
    rw [← eq]; exact j
theorem walk_tup (J : Nat → Hp → Prop) (start : J 0 H0) (there : ∀ i H, i ≤ us.length → J i H → SqT K H a us) (turn : ∀ i x H, us[i]? = some x → J i H → B (J (i + 1)) x H) (over : ∀ H, J us.length H → End H) :
    ∃ W : Nat → Nat → Hp → Prop, (∃ m, W 0 m H0) ∧ ∀ i m H, W i m H → ((Itt K a).stop i H ∧ End H) ∨ ((Itt K a).go i H ∧ ∃ Nx : Hp → Prop, (∀ H', Nx H' → ∃ m', m' < m ∧ W (i + 1) m' H') ∧ ∀ x H', (Itt K a).yld i H x H' → B Nx x H') := by
  refine ⟨fun i m H => i ≤ us.length ∧ m + i = us.length ∧ J i H, ⟨us.length, Nat.zero_le _, rfl, start⟩, fun i m H ⟨le, em, j⟩ => ?_⟩
  have here := there i H le j
  rcases Nat.lt_or_eq_of_le le with lt | eq
  · exact .inr ⟨⟨us, us[i], here, List.getElem?_eq_getElem lt⟩, J (i + 1), fun H' j' => ⟨m - 1, by omega, by omega, by omega, j'⟩, fun x H' y => by
      cases y.1
      exact turn i x H (y.2 us here) j⟩
  · refine .inl ⟨⟨us, here, by omega⟩, over H ?_⟩
    rw [← eq]; exact j
end
end Td
/-! What a true run does. -/
namespace Td
open PySem PySem.Spec PyProof.Rows L2
abbrev Env := List (Str × Str)
def kv (L : Env) : List (Key × V) := L.map fun p => (.inr p.1, V.str p.2)
def getE (L : Env) (k : Str) : Option Str := (L.find? fun p => decide (p.1 = k)).map (·.2)
def putE (L : Env) (k v : Str) : Env := if (L.any fun p => decide (p.1 = k)) = true then L.map (fun p => if p.1 = k then (p.1, v) else p) else L ++ [(k, v)]
def sdE (L : Env) (k v : Str) : Env := if (getE L k).isSome = true then L else putE L k v
theorem kv_len (L : Env) : (kv L).length = L.length := List.length_map _
theorem inr_iff (a b : Str) : (Sum.inr a : Key) = .inr b ↔ a = b := ⟨fun h => Sum.inr.inj h, fun h => by rw [h]⟩
theorem kv_get (L : Env) (k : Str) : valV (kv L) (.inr k : Key) = (getE L k).map V.str := by
  unfold valV getE kv
  induction L with
  | nil => rfl
  | cons p r ih =>
    rw [List.map_cons, List.find?_cons, List.find?_cons]
    by_cases h : p.1 = k
    · simp [h]
    · have h2 : ¬ ((Sum.inr p.1 : Key) = .inr k) := fun e => h (Sum.inr.inj e)
      simp only [decide_eq_false h, decide_eq_false h2]
      exact ih
theorem kv_any (L : Env) (k : Str) : ((kv L).any fun q => decide (q.1 = (.inr k : Key))) = L.any fun p => decide (p.1 = k) := by
  unfold kv
  induction L with
  | nil => rfl
  | cons p r ih =>
    rw [List.map_cons, List.any_cons, List.any_cons, ih]
    congr 1
    exact decide_eq_decide.mpr (inr_iff _ _)
theorem kv_put (L : Env) (k v : Str) : putK (kv L) (.inr k : Key) (.str v) = kv (putE L k v) := by
  unfold putK putE
  rw [kv_any]
  by_cases h : (L.any fun p => decide (p.1 = k)) = true
  · rw [if_pos h, if_pos h]
    unfold kv
    rw [List.map_map, List.map_map]
    refine List.map_congr_left fun p _ => ?_
    show (if (Sum.inr p.1 : Key) = .inr k then _ else _) = _
    by_cases e : p.1 = k
    · have e2 : (Sum.inr p.1 : Key) = .inr k := by rw [e]
      rw [if_pos e2]
      show _ = ((Sum.inr (if p.1 = k then (p.1, v) else p).1 : Key), V.str (if p.1 = k then (p.1, v) else p).2)
      rw [if_pos e]
    · have e2 : ¬ (Sum.inr p.1 : Key) = .inr k := fun h => e (Sum.inr.inj h)
      rw [if_neg e2]
      show _ = ((Sum.inr (if p.1 = k then (p.1, v) else p).1 : Key), V.str (if p.1 = k then (p.1, v) else p).2)
      rw [if_neg e]
  · rw [if_neg h, if_neg h]
    unfold kv
    rw [List.map_append]
    rfl
theorem putE_len (L : Env) (k v : Str) : (putE L k v).length ≤ L.length + 1 := by
  unfold putE
  split
  · rw [List.length_map]; omega
  · rw [List.length_append]; exact Nat.le_refl _
theorem sdE_len (L : Env) (k v : Str) : (sdE L k v).length ≤ L.length + 1 := by
  unfold sdE
  split
  · omega
  · exact putE_len ..
theorem getE_any (k : Str) : ∀ L : Env, (L.any fun p => decide (p.1 = k)) = (getE L k).isSome
  | [] => rfl
  | p :: r => by
    rw [List.any_cons]
    unfold getE
    rw [List.find?_cons]
    by_cases e : p.1 = k
    · simp [e]
    · simp only [decide_eq_false e, Bool.false_or]
      exact getE_any k r
theorem getE_cons (p : Str × Str) (r : Env) (k : Str) : getE (p :: r) k = if p.1 = k then some p.2 else getE r k := by
  unfold getE
  rw [List.find?_cons]
  by_cases e : p.1 = k
  · simp [e]
  · simp [e]
theorem getE_put (L : Env) (k v j : Str) : getE (putE L k v) j = if j = k then some v else getE L j := by
  unfold putE
  split
  · rename_i h
    induction L with
    | nil => simp at h
    | cons p r ih =>
      rw [List.map_cons, getE_cons, getE_cons]
      by_cases e : p.1 = k
      · rw [if_pos e]
        by_cases ej : j = k
        · subst ej; simp [e]
        · have : ¬ p.1 = j := fun h => ej (by rw [← h, e])
          rw [if_neg this, if_neg this, if_neg ej]
          by_cases hr : (r.any fun p => decide (p.1 = k)) = true
          · rw [ih hr, if_neg ej]
          · have hr2 : r.map (fun p => if p.1 = k then (p.1, v) else p) = r := by
              conv => rhs; rw [← List.map_id r]
              refine List.map_congr_left fun q hq => ?_
              rw [if_neg]
              · rfl
              · intro e2
                exact hr (List.any_eq_true.mpr ⟨q, hq, decide_eq_true e2⟩)
            rw [hr2]
      · rw [if_neg e]
        have hr : (r.any fun p => decide (p.1 = k)) = true := by
          rw [List.any_cons, decide_eq_false e, Bool.false_or] at h
          exact h
        rw [ih hr]
        by_cases ej : p.1 = j
        · rw [if_pos ej, if_pos ej, if_neg (fun h => e (by rw [ej, h]))]
        · rw [if_neg ej, if_neg ej]
  · rename_i h
    have hn : getE L k = none := by
      rw [getE_any] at h
      cases e : getE L k with
      | none => rfl
      | some z => rw [e] at h; exact absurd rfl h
    induction L with
    | nil => rw [List.nil_append, getE_cons]; by_cases ej : j = k
             · subst ej; simp
             · rw [if_neg (fun e => ej e.symm), if_neg ej]
    | cons p r ih =>
      rw [List.cons_append, getE_cons, getE_cons]
      rw [getE_cons] at hn
      by_cases e : p.1 = k
      · rw [if_pos e] at hn; cases hn
      · rw [if_neg e] at hn
        have hr : ¬ (r.any fun p => decide (p.1 = k)) = true := by rw [getE_any, hn]; simp
        rw [ih hr hn]
        by_cases ej : p.1 = j
        · rw [if_pos ej, if_pos ej, if_neg (fun h => e (by rw [ej, h]))]
        · rw [if_neg ej, if_neg ej]
/-! ### a run -/
structure RS where
  slots : Env
  noted : Env
  peeked : Env
  said : List Str
  written : Env
  given : Str
def RS.word (st : RS) (d s : Str) : Str := (getE st.slots s).getD d
mutual
def runR (kn : Str → Str) (d : Str) : Row → RS → RS × Bool
  | .rd pk c s, st => ({ st with slots := putE st.slots s (kn c), noted := (if pk then st.noted else sdE st.noted c (kn c)), peeked := (if pk then sdE st.peeked c (kn c) else st.peeked) }, false)
  | .put s u, st => ({ st with slots := putE st.slots s u }, false)
  | .give s, st => ({ st with given := st.word d s }, true)
  | .say s, st => ({ st with said := st.said ++ [st.word d s] }, false)
  | .wr c s, st => ({ st with written := st.written ++ [(c, st.word d s)] }, false)
  | .ite s u y n, st => if st.word d s = u then runRs kn d y st else runRs kn d n st
def runRs (kn : Str → Str) (d : Str) : List Row → RS → RS × Bool
  | [], st => (st, false)
  | r :: rs, st => if (runR kn d r st).2 = true then ((runR kn d r st).1, true) else runRs kn d rs (runR kn d r st).1
end
theorem runRs_yes {kn : Str → Str} {d : Str} {r : Row} {st : RS} (rs : List Row) (h : (runR kn d r st).2 = true) : runRs kn d (r :: rs) st = ((runR kn d r st).1, true) := by simp only [runRs, if_pos h]
theorem runRs_no {kn : Str → Str} {d : Str} {r : Row} {st : RS} (rs : List Row) (h : ¬ (runR kn d r st).2 = true) : runRs kn d (r :: rs) st = runRs kn d rs (runR kn d r st).1 := by simp only [runRs, if_neg h]
theorem runRs_append (kn : Str → Str) (d : Str) : ∀ (rs ts : List Row) (st : RS), runRs kn d (rs ++ ts) st = if (runRs kn d rs st).2 = true then runRs kn d rs st else runRs kn d ts (runRs kn d rs st).1
  | [], ts, st => by
    show runRs kn d ts st = _
    simp [runRs]
  | r :: rs, ts, st => by
    show runRs kn d (r :: (rs ++ ts)) st = _
    by_cases h : (runR kn d r st).2 = true
    · simp only [runRs_yes _ h, if_true]
    · simp only [runRs_no _ h]
      exact runRs_append kn d rs ts _
theorem runRs_next {kn : Str → Str} {d : Str} {rs : List Row} {st : RS} {i : Nat} {r : Row} (h : rs[i]? = some r) (hf : (runRs kn d (rs.take i) st).2 = false) :
    runRs kn d (rs.take (i + 1)) st = runR kn d r (runRs kn d (rs.take i) st).1 := by
  rw [take_more h, runRs_append, hf]
  simp only [runRs, if_neg (Bool.false_ne_true)]
  by_cases h2 : (runR kn d r (runRs kn d (rs.take i) st).1).2 = true
  · rw [if_pos h2]
    exact Prod.ext rfl h2.symm
  · rw [if_neg h2]
    exact Prod.ext rfl (by simpa using h2)
theorem runRs_stop {kn : Str → Str} {d : Str} {rs : List Row} {st : RS} {i : Nat} {r : Row} (h : rs[i]? = some r) (hf : (runRs kn d (rs.take i) st).2 = false)
    (ht : (runR kn d r (runRs kn d (rs.take i) st).1).2 = true) : runRs kn d rs st = runR kn d r (runRs kn d (rs.take i) st).1 := by
  have e : rs = rs.take (i + 1) ++ rs.drop (i + 1) := (List.take_append_drop _ _).symm
  have e2 := runRs_next h hf
  rw [e, runRs_append, ← e, e2, if_pos ht]
/-- no list of the run is long -/
structure RS.Few (st : RS) (n : Nat) : Prop where
  sl : st.slots.length ≤ n
  no : st.noted.length ≤ n
  pe : st.peeked.length ≤ n
  sa : st.said.length ≤ n
  wr : st.written.length ≤ n
theorem RS.Few.mono {st : RS} {n m : Nat} (h : st.Few n) (l : n ≤ m) : st.Few m := ⟨Nat.le_trans h.sl l, Nat.le_trans h.no l, Nat.le_trans h.pe l, Nat.le_trans h.sa l, Nat.le_trans h.wr l⟩
mutual
theorem few_R (kn : Str → Str) (d : Str) : ∀ (r : Row) (st : RS) (n : Nat), st.Few n → (runR kn d r st).1.Few (n + Td.cnt r)
  | .rd pk c s, st, n, h => by
    have h1 := putE_len st.slots s (kn c)
    have h2 := sdE_len st.noted c (kn c)
    have h3 := sdE_len st.peeked c (kn c)
    have a := h.sl; have b := h.no; have c' := h.pe; have d' := h.sa; have e := h.wr
    cases pk <;> simp only [runR, Td.cnt] <;> refine ⟨?_, ?_, ?_, ?_, ?_⟩ <;> simp <;> omega
  | .put s u, st, n, h => by
    have h1 := putE_len st.slots s u
    have a := h.sl; have b := h.no; have c' := h.pe; have d' := h.sa; have e := h.wr
    simp only [runR, Td.cnt]; refine ⟨?_, ?_, ?_, ?_, ?_⟩ <;> simp <;> omega
  | .give s, st, n, h => by
    have a := h.sl; have b := h.no; have c' := h.pe; have d' := h.sa; have e := h.wr
    simp only [runR, Td.cnt]; refine ⟨?_, ?_, ?_, ?_, ?_⟩ <;> simp <;> omega
  | .say s, st, n, h => by
    have a := h.sl; have b := h.no; have c' := h.pe; have d' := h.sa; have e := h.wr
    simp only [runR, Td.cnt]; refine ⟨?_, ?_, ?_, ?_, ?_⟩ <;> simp <;> omega
  | .wr c s, st, n, h => by
    have a := h.sl; have b := h.no; have c' := h.pe; have d' := h.sa; have e := h.wr
    simp only [runR, Td.cnt]; refine ⟨?_, ?_, ?_, ?_, ?_⟩ <;> simp <;> omega
  | .ite s u y m, st, n, h => by
    simp only [runR, Td.cnt]
    split
    · exact (few_Rs kn d y st n h).mono (by omega)
    · exact (few_Rs kn d m st n h).mono (by omega)
theorem few_Rs (kn : Str → Str) (d : Str) : ∀ (rs : List Row) (st : RS) (n : Nat), st.Few n → (runRs kn d rs st).1.Few (n + cnts rs)
  | [], st, n, h => by simp only [runRs]; exact h.mono (Nat.le_add_right _ _)
  | r :: rs, st, n, h => by
    have h1 := few_R kn d r st n h
    simp only [runRs, cnts]
    split
    · exact h1.mono (by omega)
    · exact (few_Rs kn d rs _ _ h1).mono (by omega)
end
/-! ### the run's object -/
structure RA where
  ra : Addr
  kd : Addr
  ps : Addr
  pn : Addr
  pp : Addr
  pd : Addr
  pw : Addr
  d : Str
def RA.fldsV (A : RA) (v : V) : List (Str × V) := [("noted", .ref A.pn), ("peeked", .ref A.pp), ("said", .ref A.pd), ("written", .ref A.pw), ("given", v), ("default", .str A.d), ("known", .ref A.kd), ("slots", .ref A.ps)]
def RA.flds (A : RA) (g : Str) : List (Str × V) := A.fldsV (.str g)
def wrD (p : Str × Str) : PyData := .tuple [.str p.1, .str p.2]
structure RunAt (K : PySem.W.Frag) (C : Addr) (A : RA) (H0 H : Hp) (st : RS) : Prop where
  same : Same H0 H
  f0 : H0 A.ra = none
  f1 : H0 A.ps = none
  f2 : H0 A.pn = none
  f3 : H0 A.pp = none
  f4 : H0 A.pd = none
  f5 : H0 A.pw = none
  n1 : A.ps ≠ A.pn
  n2 : A.ps ≠ A.pp
  n3 : A.pn ≠ A.pp
  n4 : A.pd ≠ A.pw
  ob : ∃ dx, H A.ra = some (.ins C dx (A.flds st.given))
  sl : H A.ps = some (.dK (kv st.slots))
  no : H A.pn = some (.dK (kv st.noted))
  pe : H A.pp = some (.dK (kv st.peeked))
  sa : H A.pd = some (.lst (st.said.map V.str))
  wr : ∃ xs, H A.pw = some (.lst xs) ∧ TnAll K H xs (st.written.map wrD)
section
variable {K : PySem.W.Frag} {C : Addr} {A : RA} {H0 H H' : Hp} {st : RS}
theorem own_same {H0 H : Hp} {p : Addr} {o : HO} (k : Same H0 H) (h : H0 p = none) : Same H0 (upd H p o) := fun b u e => by
  rw [upd_ne (ne_of_none e h)]; exact k b u e
theorem RunAt.go (h : RunAt K C A H0 H st) (s : Same H H') : RunAt K C A H0 H' st := by
  obtain ⟨dx, e⟩ := h.ob
  obtain ⟨xs, e1, e2⟩ := h.wr
  exact ⟨h.same.trans s, h.f0, h.f1, h.f2, h.f3, h.f4, h.f5, h.n1, h.n2, h.n3, h.n4, ⟨dx, s _ _ e⟩, s _ _ h.sl, s _ _ h.no, s _ _ h.pe, s _ _ h.sa, ⟨xs, s _ _ e1, TnAll.keep (TK.of_same s) e2⟩⟩
theorem RunAt.slots (h : RunAt K C A H0 H st) (L : Env) : RunAt K C A H0 (upd H A.ps (.dK (kv L))) { st with slots := L } := by
  obtain ⟨dx, e⟩ := h.ob
  obtain ⟨xs, e1, e2⟩ := h.wr
  exact ⟨own_same h.same h.f1, h.f0, h.f1, h.f2, h.f3, h.f4, h.f5, h.n1, h.n2, h.n3, h.n4, ⟨dx, by rw [upd_ne (ne_of e h.sl (by intro z; cases z))]; exact e⟩, upd_same, by rw [upd_ne (Ne.symm h.n1)]; exact h.no, by rw [upd_ne (Ne.symm h.n2)]; exact h.pe,
    by rw [upd_ne (ne_of h.sa h.sl (by intro z; cases z))]; exact h.sa, ⟨xs, by rw [upd_ne (ne_of e1 h.sl (by intro z; cases z))]; exact e1, TnAll.keep (TK.upd (by rw [h.sl]; trivial)) e2⟩⟩
theorem RunAt.noted (h : RunAt K C A H0 H st) (L : Env) : RunAt K C A H0 (upd H A.pn (.dK (kv L))) { st with noted := L } := by
  obtain ⟨dx, e⟩ := h.ob
  obtain ⟨xs, e1, e2⟩ := h.wr
  exact ⟨own_same h.same h.f2, h.f0, h.f1, h.f2, h.f3, h.f4, h.f5, h.n1, h.n2, h.n3, h.n4, ⟨dx, by rw [upd_ne (ne_of e h.no (by intro z; cases z))]; exact e⟩, by rw [upd_ne h.n1]; exact h.sl, upd_same, by rw [upd_ne (Ne.symm h.n3)]; exact h.pe,
    by rw [upd_ne (ne_of h.sa h.no (by intro z; cases z))]; exact h.sa, ⟨xs, by rw [upd_ne (ne_of e1 h.no (by intro z; cases z))]; exact e1, TnAll.keep (TK.upd (by rw [h.no]; trivial)) e2⟩⟩
theorem RunAt.peeked (h : RunAt K C A H0 H st) (L : Env) : RunAt K C A H0 (upd H A.pp (.dK (kv L))) { st with peeked := L } := by
  obtain ⟨dx, e⟩ := h.ob
  obtain ⟨xs, e1, e2⟩ := h.wr
  exact ⟨own_same h.same h.f3, h.f0, h.f1, h.f2, h.f3, h.f4, h.f5, h.n1, h.n2, h.n3, h.n4, ⟨dx, by rw [upd_ne (ne_of e h.pe (by intro z; cases z))]; exact e⟩, by rw [upd_ne h.n2]; exact h.sl, by rw [upd_ne h.n3]; exact h.no, upd_same,
    by rw [upd_ne (ne_of h.sa h.pe (by intro z; cases z))]; exact h.sa, ⟨xs, by rw [upd_ne (ne_of e1 h.pe (by intro z; cases z))]; exact e1, TnAll.keep (TK.upd (by rw [h.pe]; trivial)) e2⟩⟩
theorem RunAt.say (h : RunAt K C A H0 H st) (L : List Str) : RunAt K C A H0 (upd H A.pd (.lst (L.map V.str))) { st with said := L } := by
  obtain ⟨dx, e⟩ := h.ob
  obtain ⟨xs, e1, e2⟩ := h.wr
  exact ⟨own_same h.same h.f4, h.f0, h.f1, h.f2, h.f3, h.f4, h.f5, h.n1, h.n2, h.n3, h.n4, ⟨dx, by rw [upd_ne (ne_of e h.sa (by intro z; cases z))]; exact e⟩, by rw [upd_ne (ne_of h.sl h.sa (by intro z; cases z))]; exact h.sl, by rw [upd_ne (ne_of h.no h.sa (by intro z; cases z))]; exact h.no,
    by rw [upd_ne (ne_of h.pe h.sa (by intro z; cases z))]; exact h.pe, upd_same, ⟨xs, by rw [upd_ne (Ne.symm h.n4)]; exact e1, TnAll.keep (TK.upd (by rw [h.sa]; trivial)) e2⟩⟩
theorem RunAt.write (h : RunAt K C A H0 H st) {xs : List V} {L : Env} (e1 : H A.pw = some (.lst xs)) {ys : List V} (e2 : TnAll K H ys (L.map wrD)) : RunAt K C A H0 (upd H A.pw (.lst ys)) { st with written := L } := by
  obtain ⟨dx, e⟩ := h.ob
  exact ⟨own_same h.same h.f5, h.f0, h.f1, h.f2, h.f3, h.f4, h.f5, h.n1, h.n2, h.n3, h.n4, ⟨dx, by rw [upd_ne (ne_of e e1 (by intro z; cases z))]; exact e⟩, by rw [upd_ne (ne_of h.sl e1 (by intro z; cases z))]; exact h.sl, by rw [upd_ne (ne_of h.no e1 (by intro z; cases z))]; exact h.no,
    by rw [upd_ne (ne_of h.pe e1 (by intro z; cases z))]; exact h.pe, by rw [upd_ne h.n4]; exact h.sa, ⟨ys, upd_same, TnAll.keep (TK.upd (by rw [e1]; trivial)) e2⟩⟩
theorem RunAt.give (h : RunAt K C A H0 H st) (g : Str) {dx : Addr} (e : H A.ra = some (.ins C dx (A.flds st.given))) : RunAt K C A H0 (upd H A.ra (.ins C dx (A.flds g))) { st with given := g } := by
  obtain ⟨xs, e1, e2⟩ := h.wr
  exact ⟨own_same h.same h.f0, h.f0, h.f1, h.f2, h.f3, h.f4, h.f5, h.n1, h.n2, h.n3, h.n4, ⟨dx, upd_same⟩, by rw [upd_ne (ne_of h.sl e (by intro z; cases z))]; exact h.sl, by rw [upd_ne (ne_of h.no e (by intro z; cases z))]; exact h.no,
    by rw [upd_ne (ne_of h.pe e (by intro z; cases z))]; exact h.pe, by rw [upd_ne (ne_of h.sa e (by intro z; cases z))]; exact h.sa, ⟨xs, by rw [upd_ne (ne_of e1 e (by intro z; cases z))]; exact e1, TnAll.keep (TK.upd (by rw [e]; trivial)) e2⟩⟩
end
section
variable (A : RA) (g g' : Str)
theorem fl_default : (A.flds g).lookup ("default" : Str) = some (.str A.d) := by kernel_rfl
theorem fl_known : (A.flds g).lookup ("known" : Str) = some (.ref A.kd) := by kernel_rfl
theorem fl_slots : (A.flds g).lookup ("slots" : Str) = some (.ref A.ps) := by kernel_rfl
theorem fl_noted : (A.flds g).lookup ("noted" : Str) = some (.ref A.pn) := by kernel_rfl
theorem fl_peeked : (A.flds g).lookup ("peeked" : Str) = some (.ref A.pp) := by kernel_rfl
theorem fl_said : (A.flds g).lookup ("said" : Str) = some (.ref A.pd) := by kernel_rfl
theorem fl_written : (A.flds g).lookup ("written" : Str) = some (.ref A.pw) := by kernel_rfl
theorem fl_given : (A.flds g).lookup ("given" : Str) = some (.str g) := by kernel_rfl
theorem fl_none : (A.flds g).lookup ("word_in" : Str) = none := by kernel_rfl
theorem fl_none2 (v : V) : (A.fldsV v).lookup ("parts" : Str) = none := by kernel_rfl
theorem fv_noted (v : V) : (A.fldsV v).lookup ("noted" : Str) = some (.ref A.pn) := by kernel_rfl
theorem fv_peeked (v : V) : (A.fldsV v).lookup ("peeked" : Str) = some (.ref A.pp) := by kernel_rfl
theorem fv_said (v : V) : (A.fldsV v).lookup ("said" : Str) = some (.ref A.pd) := by kernel_rfl
theorem fv_written (v : V) : (A.fldsV v).lookup ("written" : Str) = some (.ref A.pw) := by kernel_rfl
theorem fv_given (v : V) : (A.fldsV v).lookup ("given" : Str) = some v := by kernel_rfl
theorem fl_giveV (v : V) : putF "given" v (A.flds g) = A.fldsV v := by kernel_rfl
theorem fl_give : putF "given" (.str g') (A.flds g) = A.flds g' := by kernel_rfl
end
end Td
/-! Comprehensions that leave the heap as it was but for what they make: the new list by what each turn gives. -/
namespace Td
open PySem PySem.Spec PyProof.Rows L2
theorem filter_next {α : Type} {f : α → Bool} {l : List α} {i : Nat} {x : α} (h : l[i]? = some x) : (l.take (i + 1)).filter f = if f x = true then (l.take i).filter f ++ [x] else (l.take i).filter f := by
  rw [take_more h, List.filter_append]
  cases hf : f x <;> simp [hf]
/-- values that bear the things of a list, one each -/
structure Rws {α : Type} (R : Hp → V → α → Prop) (H : Hp) (zs : List V) (L : List α) : Prop where
  len : zs.length = L.length
  get : ∀ (i : Nat) (x : α), L[i]? = some x → ∃ v, zs[i]? = some v ∧ R H v x
section
variable {α : Type} {R : Hp → V → α → Prop} {H H' : Hp}
theorem Rws.nil : Rws R H [] [] := ⟨rfl, fun i x h => by simp at h⟩
theorem Rws.keep (m : ∀ {v x}, R H v x → R H' v x) {zs : List V} {L : List α} (h : Rws R H zs L) : Rws R H' zs L := ⟨h.len, fun i x e => by
  obtain ⟨v, h1, h2⟩ := h.get i x e
  exact ⟨v, h1, m h2⟩⟩
theorem Rws.snoc {zs : List V} {L : List α} {v : V} {x : α} (h : Rws R H zs L) (r : R H v x) : Rws R H (zs ++ [v]) (L ++ [x]) := by
  refine ⟨by rw [List.length_append, List.length_append, h.len]; rfl, fun i y e => ?_⟩
  by_cases hi : i < L.length
  · rw [List.getElem?_append_left hi] at e
    obtain ⟨v, h1, h2⟩ := h.get i y e
    exact ⟨v, by rw [List.getElem?_append_left (by rw [h.len]; exact hi)]; exact h1, h2⟩
  · rw [List.getElem?_append_right (by omega)] at e
    have : i - L.length = 0 := by
      have := (List.getElem?_eq_some_iff.mp e).1
      rw [List.length_singleton] at this
      omega
    rw [this] at e
    cases e
    exact ⟨v, by rw [List.getElem?_append_right (by rw [h.len]; omega), h.len, this]; rfl, r⟩
theorem Rws.inv {zs : List V} {L : List α} {i : Nat} {v : V} (h : Rws R H zs L) (e : zs[i]? = some v) : ∃ x, L[i]? = some x ∧ R H v x := by
  have hi : i < L.length := by rw [← h.len]; exact (List.getElem?_eq_some_iff.mp e).1
  obtain ⟨w, h1, h2⟩ := h.get i _ (List.getElem?_eq_getElem hi)
  rw [e] at h1
  cases h1
  exact ⟨_, List.getElem?_eq_getElem hi, h2⟩
theorem Rws.el {el : α → V} {zs : List V} {L : List α} (h : Rws (fun _ v x => v = el x) H zs L) : zs = L.map el := by
  refine List.ext_getElem? fun i => ?_
  rw [List.getElem?_map]
  by_cases hi : i < L.length
  · obtain ⟨w, h1, h2⟩ := h.get i _ (List.getElem?_eq_getElem hi)
    rw [h1, h2, List.getElem?_eq_getElem hi]
    rfl
  · rw [List.getElem?_eq_none (by rw [h.len]; omega), List.getElem?_eq_none (by omega)]
    rfl
theorem Rws.tn {K : PySem.W.Frag} {g : α → PyData} : ∀ {zs : List V} {L : List α}, Rws (fun H v x => Tn K H v (g x)) H zs L → TnAll K H zs (L.map g)
  | [], [], _ => .nil
  | [], _ :: _, h => by have := h.len; simp at this
  | _ :: _, [], h => by have := h.len; simp at this
  | v :: zs, x :: L, h => by
    obtain ⟨w, h1, h2⟩ := h.get 0 x rfl
    cases h1
    exact .cons h2 (Rws.tn ⟨by have := h.len; simpa using this, fun i y e => by simpa using h.get (i + 1) y (by simpa using e)⟩)
end
section
variable {K : PySem.W.Frag} {a : Addr} {xs : List V} {g : TG} {tt : TT} {te : TE} {vs : List Nat} {σ : L2.St} {H1 : Hp} {D : Addr} {Qd : Hp → Prop}
variable {α : Type} (L : List α) (en : α → V) (f : α → Bool) (R : Hp → V → α → Prop)
abbrev Turn (g : TG) (tt : TT) (te : TE) (vs : List Nat) (σ : L2.St) (v : V) (H : Hp) (Yes : V → Hp → Prop) (No : Hp → Prop) : Prop :=
  g v (wipe σ vs) H fun σ2 H2 => wipe σ2 vs = wipe σ vs ∧ tt σ2 H2 fun b H3 => if b = true then te σ2 H3 Yes else No H3
/-- over a tuple, any word J of the heap beside it -/
theorem bu_tup (J : Hp → Prop) (mono : ∀ {H H' : Hp} {v : V} {x : α}, TK H H' → R H v x → R H' v x) (hx : xs = L.map en) (hlen : L.length ≤ 1000) (h0 : J (upd H1 D (.lst [])))
    (hl : ∀ H', J H' → SqT K H' a xs) (hJ : ∀ (H' : Hp) (zs zs' : List V), J H' → H' D = some (.lst zs) → J (upd H' D (.lst zs')))
    (turn : ∀ (i : Nat) (x : α) (H' : Hp), L[i]? = some x → J H' → (∃ zs, H' D = some (.lst zs)) → ∀ (Yes : V → Hp → Prop) (No : Hp → Prop), (f x = true → ∀ (y : V) (H2 : Hp), J H2 → TK H' H2 → H2 D = H' D → R H2 y x → Yes y H2) → (f x = false → ∀ (H2 : Hp), J H2 → TK H' H2 → H2 D = H' D → No H2) → Turn g tt te vs σ (en x) H' Yes No)
    (over : ∀ (H' : Hp) (zs : List V), J H' → H' D = some (.lst zs) → Rws R H' zs (L.filter f) → Qd H') :
    ∃ W : Nat → Nat → Hp → Prop, (∃ m, W 0 m (upd H1 D (.lst []))) ∧ ∀ i m H, W i m H →
      ((Itt K a).stop i H ∧ Qd H) ∨ ((Itt K a).go i H ∧ ∃ Nx : Hp → Prop, (∀ H', Nx H' → ∃ m', m' < m ∧ W (i + 1) m' H') ∧ ∀ x H', (Itt K a).yld i H x H' → g x (wipe σ vs) H' fun σ2 H2 => wipe σ2 vs = wipe σ vs ∧ tt σ2 H2 fun b H3 =>
        if b = true then te σ2 H3 fun y H4 => ∃ acc, H4 D = some (.lst acc) ∧ acc.length < sizeLine ∧ Nx (upd H4 D (.lst (acc ++ [y]))) else Nx H3) := by
  refine lc_tup (K := K) (a := a) (xs := xs) (fun i H' => ∃ zs, J H' ∧ H' D = some (.lst zs) ∧ Rws R H' zs ((L.take i).filter f)) ⟨[], h0, upd_same, by rw [List.take_zero]; exact Rws.nil⟩ (fun i H' _ ⟨_, j, _⟩ => hl H' j) ?_ ?_
  · rintro i y H' hy ⟨zs, j, hz, hR⟩
    rw [hx, List.getElem?_map] at hy
    obtain ⟨x, hx', rfl⟩ := Option.map_eq_some_iff.mp hy
    have fn := filter_next (f := f) hx'
    have il := (List.getElem?_eq_some_iff.mp hx').1
    have zl : zs.length ≤ 1000 := by
      have := hR.len
      have h2 := List.length_filter_le f (L.take i)
      rw [List.length_take] at h2
      omega
    refine turn i x H' hx' j ⟨zs, hz⟩ _ _ (fun hf y H2 j2 tk e r => ?_) (fun hf H2 j2 tk e => ?_)
    · rw [hz] at e
      refine ⟨zs, e, small1000 (by omega), zs ++ [y], hJ H2 zs _ j2 e, upd_same, ?_⟩
      have tk2 : TK H2 (upd H2 D (.lst (zs ++ [y]))) := TK.upd (by rw [e]; trivial)
      rw [fn, if_pos hf]
      exact (hR.keep (mono (tk.trans tk2))).snoc (mono tk2 r)
    · rw [hz] at e
      refine ⟨zs, j2, e, ?_⟩
      rw [fn, if_neg (by rw [hf]; exact Bool.noConfusion)]
      exact hR.keep (mono tk)
  · rintro H' ⟨zs, j, hz, hR⟩
    rw [hx, List.length_map, List.take_length] at hR
    exact over H' zs j hz hR
theorem bu_list (J : Hp → Prop) (mono : ∀ {H H' : Hp} {v : V} {x : α}, TK H H' → R H v x → R H' v x) (hx : xs = L.map en) (hlen : L.length ≤ 1000) (h0 : J (upd H1 D (.lst [])))
    (hl : ∀ H', J H' → SqL K H' a xs) (hJ : ∀ (H' : Hp) (zs zs' : List V), J H' → H' D = some (.lst zs) → J (upd H' D (.lst zs')))
    (turn : ∀ (i : Nat) (x : α) (H' : Hp), L[i]? = some x → J H' → (∃ zs, H' D = some (.lst zs)) → ∀ (Yes : V → Hp → Prop) (No : Hp → Prop), (f x = true → ∀ (y : V) (H2 : Hp), J H2 → TK H' H2 → H2 D = H' D → R H2 y x → Yes y H2) → (f x = false → ∀ (H2 : Hp), J H2 → TK H' H2 → H2 D = H' D → No H2) → Turn g tt te vs σ (en x) H' Yes No)
    (over : ∀ (H' : Hp) (zs : List V), J H' → H' D = some (.lst zs) → Rws R H' zs (L.filter f) → Qd H') :
    ∃ W : Nat → Nat → Hp → Prop, (∃ m, W 0 m (upd H1 D (.lst []))) ∧ ∀ i m H, W i m H →
      ((Itl K a).stop i H ∧ Qd H) ∨ ((Itl K a).go i H ∧ ∃ Nx : Hp → Prop, (∀ H', Nx H' → ∃ m', m' < m ∧ W (i + 1) m' H') ∧ ∀ x H', (Itl K a).yld i H x H' → g x (wipe σ vs) H' fun σ2 H2 => wipe σ2 vs = wipe σ vs ∧ tt σ2 H2 fun b H3 =>
        if b = true then te σ2 H3 fun y H4 => ∃ acc, H4 D = some (.lst acc) ∧ acc.length < sizeLine ∧ Nx (upd H4 D (.lst (acc ++ [y]))) else Nx H3) := by
  refine lc_list (K := K) (a := a) (xs := xs) (fun i H' => ∃ zs, J H' ∧ H' D = some (.lst zs) ∧ Rws R H' zs ((L.take i).filter f)) ⟨[], h0, upd_same, by rw [List.take_zero]; exact Rws.nil⟩ (fun i H' _ ⟨_, j, _⟩ => hl H' j) ?_ ?_
  · rintro i y H' hy ⟨zs, j, hz, hR⟩
    rw [hx, List.getElem?_map] at hy
    obtain ⟨x, hx', rfl⟩ := Option.map_eq_some_iff.mp hy
    have fn := filter_next (f := f) hx'
    have il := (List.getElem?_eq_some_iff.mp hx').1
    have zl : zs.length ≤ 1000 := by
      have := hR.len
      have h2 := List.length_filter_le f (L.take i)
      rw [List.length_take] at h2
      omega
    refine turn i x H' hx' j ⟨zs, hz⟩ _ _ (fun hf y H2 j2 tk e r => ?_) (fun hf H2 j2 tk e => ?_)
    · rw [hz] at e
      refine ⟨zs, e, small1000 (by omega), zs ++ [y], hJ H2 zs _ j2 e, upd_same, ?_⟩
      have tk2 : TK H2 (upd H2 D (.lst (zs ++ [y]))) := TK.upd (by rw [e]; trivial)
      rw [fn, if_pos hf]
      exact (hR.keep (mono (tk.trans tk2))).snoc (mono tk2 r)
    · rw [hz] at e
      refine ⟨zs, j2, e, ?_⟩
      rw [fn, if_neg (by rw [hf]; exact Bool.noConfusion)]
      exact hR.keep (mono tk)
  · rintro H' ⟨zs, j, hz, hR⟩
    rw [hx, List.length_map, List.take_length] at hR
    exact over H' zs j hz hR
end
section
variable {g : TG} {tt : TT} {te : TE} {vs : List Nat} {σ : L2.St} {H1 : Hp} {D : Addr} {Qd : Hp → Prop}
theorem range_take {n i : Nat} (h : i < n) : (List.range n)[i]? = some i := by rw [List.getElem?_range h]
/-- over numbers -/
theorem bu_range {lo : Int} {n : Nat} (f : Nat → Bool) (R : Hp → V → Nat → Prop) (J : Hp → Prop) (mono : ∀ {H H' : Hp} {v : V} {x : Nat}, TK H H' → R H v x → R H' v x) (hlen : n ≤ 1000) (h0 : J (upd H1 D (.lst [])))
    (hJ : ∀ (H' : Hp) (zs zs' : List V), J H' → H' D = some (.lst zs) → J (upd H' D (.lst zs')))
    (turn : ∀ (i : Nat) (H' : Hp), i < n → J H' → (∃ zs, H' D = some (.lst zs)) → ∀ (Yes : V → Hp → Prop) (No : Hp → Prop), (f i = true → ∀ (y : V) (H2 : Hp), J H2 → TK H' H2 → H2 D = H' D → R H2 y i → Yes y H2) → (f i = false → ∀ (H2 : Hp), J H2 → TK H' H2 → H2 D = H' D → No H2) → Turn g tt te vs σ (.int (lo + (i : Nat))) H' Yes No)
    (over : ∀ (H' : Hp) (zs : List V), J H' → H' D = some (.lst zs) → Rws R H' zs ((List.range n).filter f) → Qd H') :
    ∃ W : Nat → Nat → Hp → Prop, (∃ m, W 0 m (upd H1 D (.lst []))) ∧ ∀ i m H, W i m H →
      ((Itr lo n).stop i H ∧ Qd H) ∨ ((Itr lo n).go i H ∧ ∃ Nx : Hp → Prop, (∀ H', Nx H' → ∃ m', m' < m ∧ W (i + 1) m' H') ∧ ∀ x H', (Itr lo n).yld i H x H' → g x (wipe σ vs) H' fun σ2 H2 => wipe σ2 vs = wipe σ vs ∧ tt σ2 H2 fun b H3 =>
        if b = true then te σ2 H3 fun y H4 => ∃ acc, H4 D = some (.lst acc) ∧ acc.length < sizeLine ∧ Nx (upd H4 D (.lst (acc ++ [y]))) else Nx H3) := by
  refine lc_range (lo := lo) (n := n) (fun i H' => ∃ zs, J H' ∧ H' D = some (.lst zs) ∧ Rws R H' zs (((List.range n).take i).filter f)) ⟨[], h0, upd_same, by rw [List.take_zero]; exact Rws.nil⟩ ?_ ?_
  · rintro i H' hi ⟨zs, j, hz, hR⟩
    have hx' := range_take hi
    have fn := filter_next (f := f) hx'
    have zl : zs.length ≤ 1000 := by
      have := hR.len
      have h2 := List.length_filter_le f ((List.range n).take i)
      rw [List.length_take] at h2
      omega
    refine turn i H' hi j ⟨zs, hz⟩ _ _ (fun hf y H2 j2 tk e r => ?_) (fun hf H2 j2 tk e => ?_)
    · rw [hz] at e
      refine ⟨zs, e, small1000 (by omega), zs ++ [y], hJ H2 zs _ j2 e, upd_same, ?_⟩
      have tk2 : TK H2 (upd H2 D (.lst (zs ++ [y]))) := TK.upd (by rw [e]; trivial)
      rw [fn, if_pos hf]
      exact (hR.keep (mono (tk.trans tk2))).snoc (mono tk2 r)
    · rw [hz] at e
      refine ⟨zs, j2, e, ?_⟩
      rw [fn, if_neg (by rw [hf]; exact Bool.noConfusion)]
      exact hR.keep (mono tk)
  · rintro H' ⟨zs, j, hz, hR⟩
    have e : (List.range n).take n = List.range n := List.take_of_length_le (by rw [List.length_range]; exact Nat.le_refl _)
    rw [e] at hR
    exact over H' zs j hz hR
end
/-! ### the heap as it was -/
section
variable {K : PySem.W.Frag} {a : Addr} {xs : List V} {g : TG} {tt : TT} {te : TE} {vs : List Nat} {σ : L2.St} {H1 : Hp} {D : Addr} {Qd : Hp → Prop}
variable {α : Type} (L : List α) (en : α → V) (f : α → Bool) (R : Hp → V → α → Prop)
/-- what stood stands, and the new list is a list -/
def JS (H1 : Hp) (D : Addr) (H' : Hp) : Prop := Same H1 H' ∧ ∃ zs, H' D = some (.lst zs)
theorem JS.start (hD : H1 D = none) : JS H1 D (upd H1 D (.lst [])) := ⟨Same.new hD _, [], upd_same⟩
theorem JS.put (hD : H1 D = none) (H' : Hp) (zs zs' : List V) (j : JS H1 D H') (_ : H' D = some (.lst zs)) : JS H1 D (upd H' D (.lst zs')) := ⟨own_same j.1 hD, zs', upd_same⟩
theorem JS.go {H' H2 : Hp} (j : JS H1 D H') (s : Same H' H2) : JS H1 D H2 ∧ H2 D = H' D := by
  obtain ⟨s1, zs, e⟩ := j
  exact ⟨⟨s1.trans s, zs, s _ _ e⟩, by rw [e]; exact s _ _ e⟩
theorem buS_tup (mono : ∀ {H H' : Hp} {v : V} {x : α}, TK H H' → R H v x → R H' v x) (hl : SqT K H1 a xs) (hx : xs = L.map en) (hlen : L.length ≤ 1000) (hD : H1 D = none)
    (turn : ∀ (i : Nat) (x : α) (H' : Hp), L[i]? = some x → Same H1 H' → ∀ (Yes : V → Hp → Prop) (No : Hp → Prop), (f x = true → ∀ (y : V) (H2 : Hp), Same H' H2 → R H2 y x → Yes y H2) → (f x = false → ∀ (H2 : Hp), Same H' H2 → No H2) → Turn g tt te vs σ (en x) H' Yes No)
    (over : ∀ (H' : Hp) (zs : List V), Same H1 H' → H' D = some (.lst zs) → Rws R H' zs (L.filter f) → Qd H') :
    ∃ W : Nat → Nat → Hp → Prop, (∃ m, W 0 m (upd H1 D (.lst []))) ∧ ∀ i m H, W i m H →
      ((Itt K a).stop i H ∧ Qd H) ∨ ((Itt K a).go i H ∧ ∃ Nx : Hp → Prop, (∀ H', Nx H' → ∃ m', m' < m ∧ W (i + 1) m' H') ∧ ∀ x H', (Itt K a).yld i H x H' → g x (wipe σ vs) H' fun σ2 H2 => wipe σ2 vs = wipe σ vs ∧ tt σ2 H2 fun b H3 =>
        if b = true then te σ2 H3 fun y H4 => ∃ acc, H4 D = some (.lst acc) ∧ acc.length < sizeLine ∧ Nx (upd H4 D (.lst (acc ++ [y]))) else Nx H3) :=
  bu_tup (K := K) (a := a) (xs := xs) L en f R (JS H1 D) mono hx hlen (JS.start hD) (fun H' j => SqT.same j.1 hl) (JS.put hD)
    (fun i x H' hx' j _ Yes No y n => turn i x H' hx' j.1 Yes No (fun hf v H2 s r => y hf v H2 (j.go s).1 (TK.of_same s) (j.go s).2 r) fun hf H2 s => n hf H2 (j.go s).1 (TK.of_same s) (j.go s).2)
    fun H' zs j hz hR => over H' zs j.1 hz hR
theorem buS_list (mono : ∀ {H H' : Hp} {v : V} {x : α}, TK H H' → R H v x → R H' v x) (hl : SqL K H1 a xs) (hx : xs = L.map en) (hlen : L.length ≤ 1000) (hD : H1 D = none)
    (turn : ∀ (i : Nat) (x : α) (H' : Hp), L[i]? = some x → Same H1 H' → ∀ (Yes : V → Hp → Prop) (No : Hp → Prop), (f x = true → ∀ (y : V) (H2 : Hp), Same H' H2 → R H2 y x → Yes y H2) → (f x = false → ∀ (H2 : Hp), Same H' H2 → No H2) → Turn g tt te vs σ (en x) H' Yes No)
    (over : ∀ (H' : Hp) (zs : List V), Same H1 H' → H' D = some (.lst zs) → Rws R H' zs (L.filter f) → Qd H') :
    ∃ W : Nat → Nat → Hp → Prop, (∃ m, W 0 m (upd H1 D (.lst []))) ∧ ∀ i m H, W i m H →
      ((Itl K a).stop i H ∧ Qd H) ∨ ((Itl K a).go i H ∧ ∃ Nx : Hp → Prop, (∀ H', Nx H' → ∃ m', m' < m ∧ W (i + 1) m' H') ∧ ∀ x H', (Itl K a).yld i H x H' → g x (wipe σ vs) H' fun σ2 H2 => wipe σ2 vs = wipe σ vs ∧ tt σ2 H2 fun b H3 =>
        if b = true then te σ2 H3 fun y H4 => ∃ acc, H4 D = some (.lst acc) ∧ acc.length < sizeLine ∧ Nx (upd H4 D (.lst (acc ++ [y]))) else Nx H3) :=
  bu_list (K := K) (a := a) (xs := xs) L en f R (JS H1 D) mono hx hlen (JS.start hD) (fun H' j => SqL.same j.1 hl) (JS.put hD)
    (fun i x H' hx' j _ Yes No y n => turn i x H' hx' j.1 Yes No (fun hf v H2 s r => y hf v H2 (j.go s).1 (TK.of_same s) (j.go s).2 r) fun hf H2 s => n hf H2 (j.go s).1 (TK.of_same s) (j.go s).2)
    fun H' zs j hz hR => over H' zs j.1 hz hR
theorem fiS_tup (el : α → V) (hl : SqT K H1 a xs) (hx : xs = L.map en) (hlen : L.length ≤ 1000) (hD : H1 D = none)
    (turn : ∀ (i : Nat) (x : α) (H' : Hp), L[i]? = some x → Same H1 H' → ∀ (Yes : V → Hp → Prop) (No : Hp → Prop), (f x = true → ∀ (H2 : Hp), Same H' H2 → Yes (el x) H2) → (f x = false → ∀ (H2 : Hp), Same H' H2 → No H2) → Turn g tt te vs σ (en x) H' Yes No)
    (over : ∀ (H' : Hp), Same H1 H' → H' D = some (.lst ((L.filter f).map el)) → Qd H') :
    ∃ W : Nat → Nat → Hp → Prop, (∃ m, W 0 m (upd H1 D (.lst []))) ∧ ∀ i m H, W i m H →
      ((Itt K a).stop i H ∧ Qd H) ∨ ((Itt K a).go i H ∧ ∃ Nx : Hp → Prop, (∀ H', Nx H' → ∃ m', m' < m ∧ W (i + 1) m' H') ∧ ∀ x H', (Itt K a).yld i H x H' → g x (wipe σ vs) H' fun σ2 H2 => wipe σ2 vs = wipe σ vs ∧ tt σ2 H2 fun b H3 =>
        if b = true then te σ2 H3 fun y H4 => ∃ acc, H4 D = some (.lst acc) ∧ acc.length < sizeLine ∧ Nx (upd H4 D (.lst (acc ++ [y]))) else Nx H3) :=
  buS_tup (K := K) (a := a) (xs := xs) L en f (fun _ v x => v = el x) (fun _ h => h) hl hx hlen hD
    (fun i x H' hx' s Yes No y n => turn i x H' hx' s Yes No (fun hf H2 s2 => y hf _ H2 s2 rfl) n)
    fun H' zs s hz hR => over H' s (by rw [← hR.el]; exact hz)
theorem fiS_list (el : α → V) (hl : SqL K H1 a xs) (hx : xs = L.map en) (hlen : L.length ≤ 1000) (hD : H1 D = none)
    (turn : ∀ (i : Nat) (x : α) (H' : Hp), L[i]? = some x → Same H1 H' → ∀ (Yes : V → Hp → Prop) (No : Hp → Prop), (f x = true → ∀ (H2 : Hp), Same H' H2 → Yes (el x) H2) → (f x = false → ∀ (H2 : Hp), Same H' H2 → No H2) → Turn g tt te vs σ (en x) H' Yes No)
    (over : ∀ (H' : Hp), Same H1 H' → H' D = some (.lst ((L.filter f).map el)) → Qd H') :
    ∃ W : Nat → Nat → Hp → Prop, (∃ m, W 0 m (upd H1 D (.lst []))) ∧ ∀ i m H, W i m H →
      ((Itl K a).stop i H ∧ Qd H) ∨ ((Itl K a).go i H ∧ ∃ Nx : Hp → Prop, (∀ H', Nx H' → ∃ m', m' < m ∧ W (i + 1) m' H') ∧ ∀ x H', (Itl K a).yld i H x H' → g x (wipe σ vs) H' fun σ2 H2 => wipe σ2 vs = wipe σ vs ∧ tt σ2 H2 fun b H3 =>
        if b = true then te σ2 H3 fun y H4 => ∃ acc, H4 D = some (.lst acc) ∧ acc.length < sizeLine ∧ Nx (upd H4 D (.lst (acc ++ [y]))) else Nx H3) :=
  buS_list (K := K) (a := a) (xs := xs) L en f (fun _ v x => v = el x) (fun _ h => h) hl hx hlen hD
    (fun i x H' hx' s Yes No y n => turn i x H' hx' s Yes No (fun hf H2 s2 => y hf _ H2 s2 rfl) n)
    fun H' zs s hz hR => over H' s (by rw [← hR.el]; exact hz)
theorem buS_range {lo : Int} {n : Nat} (f : Nat → Bool) (R : Hp → V → Nat → Prop) (mono : ∀ {H H' : Hp} {v : V} {x : Nat}, TK H H' → R H v x → R H' v x) (hlen : n ≤ 1000) (hD : H1 D = none)
    (turn : ∀ (i : Nat) (H' : Hp), i < n → Same H1 H' → ∀ (Yes : V → Hp → Prop) (No : Hp → Prop), (f i = true → ∀ (y : V) (H2 : Hp), Same H' H2 → R H2 y i → Yes y H2) → (f i = false → ∀ (H2 : Hp), Same H' H2 → No H2) → Turn g tt te vs σ (.int (lo + (i : Nat))) H' Yes No)
    (over : ∀ (H' : Hp) (zs : List V), Same H1 H' → H' D = some (.lst zs) → Rws R H' zs ((List.range n).filter f) → Qd H') :
    ∃ W : Nat → Nat → Hp → Prop, (∃ m, W 0 m (upd H1 D (.lst []))) ∧ ∀ i m H, W i m H →
      ((Itr lo n).stop i H ∧ Qd H) ∨ ((Itr lo n).go i H ∧ ∃ Nx : Hp → Prop, (∀ H', Nx H' → ∃ m', m' < m ∧ W (i + 1) m' H') ∧ ∀ x H', (Itr lo n).yld i H x H' → g x (wipe σ vs) H' fun σ2 H2 => wipe σ2 vs = wipe σ vs ∧ tt σ2 H2 fun b H3 =>
        if b = true then te σ2 H3 fun y H4 => ∃ acc, H4 D = some (.lst acc) ∧ acc.length < sizeLine ∧ Nx (upd H4 D (.lst (acc ++ [y]))) else Nx H3) :=
  bu_range f R (JS H1 D) mono hlen (JS.start hD) (JS.put hD)
    (fun i H' hx' j _ Yes No y n => turn i H' hx' j.1 Yes No (fun hf v H2 s r => y hf v H2 (j.go s).1 (TK.of_same s) (j.go s).2 r) fun hf H2 s => n hf H2 (j.go s).1 (TK.of_same s) (j.go s).2)
    fun H' zs j hz hR => over H' zs j.1 hz hR
theorem fiS_range {lo : Int} {n : Nat} (f : Nat → Bool) (el : Nat → V) (hlen : n ≤ 1000) (hD : H1 D = none)
    (turn : ∀ (i : Nat) (H' : Hp), i < n → Same H1 H' → ∀ (Yes : V → Hp → Prop) (No : Hp → Prop), (f i = true → ∀ (H2 : Hp), Same H' H2 → Yes (el i) H2) → (f i = false → ∀ (H2 : Hp), Same H' H2 → No H2) → Turn g tt te vs σ (.int (lo + (i : Nat))) H' Yes No)
    (over : ∀ (H' : Hp), Same H1 H' → H' D = some (.lst (((List.range n).filter f).map el)) → Qd H') :
    ∃ W : Nat → Nat → Hp → Prop, (∃ m, W 0 m (upd H1 D (.lst []))) ∧ ∀ i m H, W i m H →
      ((Itr lo n).stop i H ∧ Qd H) ∨ ((Itr lo n).go i H ∧ ∃ Nx : Hp → Prop, (∀ H', Nx H' → ∃ m', m' < m ∧ W (i + 1) m' H') ∧ ∀ x H', (Itr lo n).yld i H x H' → g x (wipe σ vs) H' fun σ2 H2 => wipe σ2 vs = wipe σ vs ∧ tt σ2 H2 fun b H3 =>
        if b = true then te σ2 H3 fun y H4 => ∃ acc, H4 D = some (.lst acc) ∧ acc.length < sizeLine ∧ Nx (upd H4 D (.lst (acc ++ [y]))) else Nx H3) :=
  buS_range f (fun _ v x => v = el x) (fun _ h => h) hlen hD
    (fun i H' hx' s Yes No y n => turn i H' hx' s Yes No (fun hf H2 s2 => y hf _ H2 s2 rfl) n)
    fun H' zs s hz hR => over H' s (by rw [← hR.el]; exact hz)
end
theorem filter_all {α : Type} (L : List α) : L.filter (fun _ => true) = L := List.filter_eq_self.mpr fun _ _ => rfl
/-- a test that is known -/
theorem if_known {c : Bool} {A B : Prop} (yes : c = true → A) (no : c = false → B) : if c = true then A else B := by
  cases c with
  | true => exact if_true_of rfl (yes rfl)
  | false => exact if_false_of rfl (no rfl)
end Td
/-! The head's look for a program with a method that opens with super().__init__(). -/
namespace Td
open PySem PySem.Spec PyProof.Rows L2
def frU (n : Nat) (g : Addr → Option Obj) : PySem.W.Frag := He.frT g (cStatics :: He.asD g n)
abbrev FnC : Type := Option (Str × Str × Arguments × FuncBody × Scope × Addr × List Str × Addr)
/-- a function's text, its closure by names alone -/
def fnC (K : PySem.W.Frag) (p : Str × Option Str) : FnC := match K.lookup (He.fAd K p) with
  | some ⟨_, _, .func fd, _⟩ => some (fd.name, fd.qualname, fd.params, fd.body, fd.scope, fd.globals, fd.closure.map (·.1), fd.builtins)
  | _ => none
structure SupD where
  cls : Str
  oth : Str
  qual : Str
  file : Str
  params : Arguments
  body : List Stmt
  scope : Scope
def SupD.at_ (d : SupD) : Str × Option Str := (d.cls, some "__init__")
def SupD.val (d : SupD) : FnC := some ("__init__", d.qual, d.params, .stmts d.body, d.scope, mainGlobals, ["__class__"], builtinsNs)
def cellB (K : PySem.W.Frag) (d : SupD) (l : List (Str × Addr)) : Bool := match l with
  | [q] => (match K.lookup q.2 with
    | some ⟨_, _, .cell (some (.ref D)), _⟩ => decide (D = He.ga K d.cls)
    | _ => false)
  | _ => false
def noneB (v : Value) : Bool := match v with
  | .none => true
  | _ => false
def strB (x : Str) (v : Option Value) : Bool := match v with
  | some (.str f _) => x == f
  | _ => false
def fileB (K : PySem.W.Frag) (d : SupD) (v : Value) : Bool := match v with
  | .ref cda => (match K.lookup cda with
    | some ⟨_, _, .fields vs, _⟩ => strB d.file (vs[2]?)
    | _ => false)
  | _ => false
theorem cellB_ok {K : PySem.W.Frag} {d : SupD} {l : List (Str × Addr)} (h : cellB K d l = true) : ∃ x cc c1 c2 c4, l = [(x, cc)] ∧ K.lookup cc = some ⟨c1, c2, .cell (some (.ref (He.ga K d.cls))), c4⟩ := by
  unfold cellB at h
  split at h
  · rename_i q
    split at h
    · rename_i c1 c2 D c4 e
      exact ⟨q.1, q.2, c1, c2, c4, rfl, by rw [e, of_decide_eq_true h]⟩
    · cases h
  · cases h
theorem noneB_ok {v : Value} (h : noneB v = true) : v = .none := by
  cases v with
  | none => rfl
  | _ => cases h
theorem strB_ok {x : Str} {v : Option Value} (h : strB x v = true) : ∃ f t, v = some (.str f t) ∧ (x == f) = true := by
  unfold strB at h
  split at h
  · rename_i f t
    exact ⟨f, t, rfl, h⟩
  · cases h
theorem fileB_ok {K : PySem.W.Frag} {d : SupD} {v : Value} (h : fileB K d v = true) : ∃ cda f1 f2 vs f4 f t, v = .ref cda ∧ K.lookup cda = some ⟨f1, f2, .fields vs, f4⟩ ∧ vs[2]? = some (.str f t) ∧ (d.file == f) = true := by
  unfold fileB at h
  split at h
  · rename_i cda
    split at h
    · rename_i f1 f2 vs f4 e
      obtain ⟨f, t, h1, h2⟩ := strB_ok h
      exact ⟨cda, f1, f2, vs, f4, f, t, rfl, e, h1, h2⟩
    · cases h
  · cases h
def supFn (K : PySem.W.Frag) (d : SupD) : Bool := match K.lookup (He.fAd K d.at_) with
  | some ⟨_, _, .func fd, _⟩ => cellB K d fd.closure && (noneB fd.defaults && (fileB K d fd.code && PySem.W.codeIn K fd.code d.qual))
  | _ => false
def supB (K : PySem.W.Frag) (d : SupD) : Bool := supFn K d && ((PySem.W.clsIn K (He.ga K d.cls)).isSome && (decide (PySem.W.mroIn K (He.ga K d.cls) (.ref (He.ga K d.cls)) = some true) && (He.eqO (PySem.W.ks_superIn K (He.ga K d.cls) (He.ga K d.cls) "__init__") (some (some (.ref (He.fAd K (d.oth, some "__init__"))))) &&
  (decide (PySem.W.typeIn K (.ref (He.fAd K (d.oth, some "__init__"))) = some (.type "function")) && (PySem.W.fnIn K (He.fAd K (d.oth, some "__init__")) && (He.eqO (PySem.W.nsIn K cStatics "thirdparty.any") (some none) && (He.eqO (PySem.W.nsIn K mainGlobals "super") (some none) && PySem.W.keepIn K (.ref (He.fAd K d.at_)))))))))
theorem sup_of {P : Program} {K : PySem.W.Frag} {d : SupD} {st : Stmt} (hp : d.params = defArgs st) (hb : d.body = defBody st) (hs : d.scope = defScope st) (hf : P.main.file = d.file) (e : fnC K d.at_ = d.val) (c : supB K d = true) :
    ∃ fd, Sup P K d.qual st (He.fAd K d.at_) (He.ga K d.cls) (He.fAd K (d.oth, some "__init__")) fd := by
  obtain ⟨c1, c⟩ := He.ba c
  obtain ⟨c2, c⟩ := He.ba c
  obtain ⟨c3, c⟩ := He.ba c
  obtain ⟨c4, c⟩ := He.ba c
  obtain ⟨c5, c⟩ := He.ba c
  obtain ⟨c6, c⟩ := He.ba c
  obtain ⟨c7, c⟩ := He.ba c
  obtain ⟨c8, c9⟩ := He.ba c
  unfold supFn at c1
  unfold fnC at e
  cases q : K.lookup (He.fAd K d.at_) with
  | none => rw [q] at e; cases e
  | some o =>
    obtain ⟨oc, od, dt, osl⟩ := o
    rw [q] at e c1
    cases dt with
    | func fd =>
      obtain ⟨n1, n2, n3, n4, n5, n6, n7, n8, n9, n10, n11, n12, n13, n14, n15⟩ := fd
      have e2 : (some (n1, n2, n3, n4, n5, n6, n7.map (·.1), n15) : FnC) = d.val := e
      unfold SupD.val at e2
      simp only [Option.some.injEq, Prod.mk.injEq] at e2
      obtain ⟨h1, h2, h3, h4, h5, h6, h7, h8⟩ := e2
      obtain ⟨d1, d2⟩ := He.ba c1
      obtain ⟨d3, d4⟩ := He.ba d2
      obtain ⟨d5, d6⟩ := He.ba d4
      obtain ⟨x1, cc, k1, k2, k4, hl, hcc⟩ := cellB_ok d1
      obtain ⟨cda, f1, f2, vs, f4, f, tf, hcode, hcda, hv, hfile⟩ := fileB_ok d5
      have hd := noneB_ok d3
      dsimp only at hl hcode hd d6
      subst hl
      have hx : x1 = "__class__" := by simpa using h7
      subst hx h1 h2 h3 h4 h5 h6 h8 hcode hd
      obtain ⟨cd, hcd⟩ := Option.isSome_iff_exists.mp c2
      refine ⟨_, ⟨oc, od, osl, n9, n10, n11, n12, n14, cc, cda, f1, f2, vs, f4, f, tf, k1, k2, k4, rfl, ?_, d6, hcda, hv, by rw [hf]; exact hfile, hcc⟩, ⟨cd, hcd⟩, of_decide_eq_true c3, He.eqO_ok c4, of_decide_eq_true c5, c6, He.eqO_ok c7, He.eqO_ok c8, c9⟩
      rw [← hp, ← hb, ← hs]
      exact q
    | _ => cases e
/-! ### the Hook -/
abbrev AlU : Type := He.AlT × (Bool × List FnC)
def obsU (n : Nat) (fa : List He.Fa) (fn : List He.DefD) (ts : List He.Tab) (us : List SupD) (ex : PySem.W.Frag → Bool) (g : Addr → Option Obj) : AlU := (He.obsT fa fn ts (frU n g), (ex (frU n g) && us.all (supB (frU n g)), us.map fun d => fnC (frU n g) d.at_))
def valU (fn : List He.DefD) (ts : List He.Tab) (us : List SupD) (w : World) : AlU := (He.valT fn ts w, (true, us.map SupD.val))
structure SaysU (fa : List He.Fa) (fn : List He.DefD) (ts : List He.Tab) (us : List SupD) (ex : PySem.W.Frag → Bool) (w : World) (K : PySem.W.Frag) : Prop where
  t : He.SaysT fa fn ts w K
  more : ex K = true
  us : ∀ d ∈ us, supB K d = true ∧ fnC K d.at_ = d.val
theorem saysU_of {n : Nat} {fa : List He.Fa} {fn : List He.DefD} {ts : List He.Tab} {us : List SupD} {ex : PySem.W.Frag → Bool} {w : World} {g : Addr → Option Obj} (e : obsU n fa fn ts us ex g = valU fn ts us w) : SaysU fa fn ts us ex w (frU n g) := by
  have e1 : He.obsT fa fn ts (frU n g) = He.valT fn ts w := congrArg (fun z : AlU => z.1) e
  have e2 : (ex (frU n g) && us.all (supB (frU n g))) = true := congrArg (fun z : AlU => z.2.1) e
  have e3 : (us.map fun d => fnC (frU n g) d.at_) = us.map SupD.val := congrArg (fun z : AlU => z.2.2) e
  obtain ⟨a, b⟩ := He.ba e2
  refine ⟨e1, a, fun d hd => ⟨List.all_eq_true.mp b d hd, ?_⟩⟩
  exact List.map_inj_left.mp e3 d hd
def hookU (n : Nat) (fa : List He.Fa) (fn : List He.DefD) (ts : List He.Tab) (us : List SupD) (ex : PySem.W.Frag → Bool) : PySem.W.Hook where
  α := AlU
  obs := fun s => obsU n fa fn ts us ex s.heap.get?
  val := fun w => valU fn ts us w
  says := fun w h => ∃ K : PySem.W.Frag, K.In h ∧ SaysU fa fn ts us ex w K
  of := fun _ _ e => ⟨_, He.frT_in, saysU_of e⟩
  keeps := fun _ _ _ ⟨K, hK, c⟩ k => ⟨K, PySem.W.Frag.In.keeps hK k, c⟩
theorem obsU_eq {n : Nat} {fa : List He.Fa} {fn : List He.DefD} {ts : List He.Tab} {us : List SupD} {ex : PySem.W.Frag → Bool} {g : Addr → Option Obj} {s : Shared} (h : ∀ a, g a = s.heap.get? a) : obsU n fa fn ts us ex g = (hookU n fa fn ts us ex).obs s := by
  have e : g = s.heap.get? := funext h
  rw [e] <;> rfl
end Td
/-! The head's look over a list of places that is written out. -/
namespace Td
open PySem PySem.Spec PyProof.Rows L2
def obsV (as : List Addr) (fa : List He.Fa) (fn : List He.DefD) (ts : List He.Tab) (us : List SupD) (ex : PySem.W.Frag → Bool) (g : Addr → Option Obj) : AlU := (He.obsT fa fn ts (He.frT g as), (ex (He.frT g as) && us.all (supB (He.frT g as)), us.map fun d => fnC (He.frT g as) d.at_))
theorem saysV_of {as : List Addr} {fa : List He.Fa} {fn : List He.DefD} {ts : List He.Tab} {us : List SupD} {ex : PySem.W.Frag → Bool} {w : World} {g : Addr → Option Obj} (e : obsV as fa fn ts us ex g = valU fn ts us w) : SaysU fa fn ts us ex w (He.frT g as) := by
  have e1 : He.obsT fa fn ts (He.frT g as) = He.valT fn ts w := congrArg (fun z : AlU => z.1) e
  have e2 : (ex (He.frT g as) && us.all (supB (He.frT g as))) = true := congrArg (fun z : AlU => z.2.1) e
  have e3 : (us.map fun d => fnC (He.frT g as) d.at_) = us.map SupD.val := congrArg (fun z : AlU => z.2.2) e
  obtain ⟨a, b⟩ := He.ba e2
  exact ⟨e1, a, fun d hd => ⟨List.all_eq_true.mp b d hd, List.map_inj_left.mp e3 d hd⟩⟩
def hookV (as : List Addr) (fa : List He.Fa) (fn : List He.DefD) (ts : List He.Tab) (us : List SupD) (ex : PySem.W.Frag → Bool) : PySem.W.Hook where
  α := AlU
  obs := fun s => obsV as fa fn ts us ex s.heap.get?
  val := fun w => valU fn ts us w
  says := fun w h => ∃ K : PySem.W.Frag, K.In h ∧ SaysU fa fn ts us ex w K
  of := fun _ _ e => ⟨_, He.frT_in, saysV_of e⟩
  keeps := fun _ _ _ ⟨K, hK, c⟩ k => ⟨K, PySem.W.Frag.In.keeps hK k, c⟩
theorem obsV_eq {as : List Addr} {fa : List He.Fa} {fn : List He.DefD} {ts : List He.Tab} {us : List SupD} {ex : PySem.W.Frag → Bool} {g : Addr → Option Obj} {s : Shared} (h : ∀ a, g a = s.heap.get? a) : obsV as fa fn ts us ex g = (hookV as fa fn ts us ex).obs s := by
  have e : g = s.heap.get? := funext h
  rw [e] <;> rfl
end Td
/-! Rows found by steps, rows put there, reads put ahead, reads that became peeks: a run tells the same. -/
namespace Td
open PySem PySem.Spec PyProof.Rows L2
def getI {α : Type} (l : List α) (i : Int) : Option α := if 0 ≤ i then l[i.toNat]? else none
theorem getI_nat {α : Type} (l : List α) (i : Nat) : getI l (i : Nat) = l[i]? := if_pos (by omega)
def rowAt : List Row → List Int → Option Row
  | _, [] => none
  | rs, [i] => getI rs i
  | rs, i :: j :: st => match getI rs i with
    | some (.ite _ _ y n) => if j = 0 then rowAt y st else if j = 1 then rowAt n st else none
    | _ => none
def setAt : List Row → List Int → Row → List Row
  | rs, [], _ => rs
  | rs, [i], r => rs.set i.toNat r
  | rs, i :: j :: st, r => match getI rs i with
    | some (.ite s u y n) => if j = 0 then rs.set i.toNat (.ite s u (setAt y st r) n) else rs.set i.toNat (.ite s u y (setAt n st r))
    | _ => rs
/-! ### the slots that rows name -/
def slotR : Row → Str
  | .rd _ _ s => s
  | .put s _ => s
  | .give s => s
  | .say s => s
  | .wr _ s => s
  | .ite s _ _ _ => s
mutual
def slotsR : Row → List Str
  | .ite s _ y n => s :: (slotsRs y ++ slotsRs n)
  | .rd _ _ s => [s]
  | .put s _ => [s]
  | .give s => [s]
  | .say s => [s]
  | .wr _ s => [s]
def slotsRs : List Row → List Str
  | [] => []
  | r :: rs => slotsR r ++ slotsRs rs
end
theorem slotsRs_append : ∀ rs ts, slotsRs (rs ++ ts) = slotsRs rs ++ slotsRs ts
  | [], ts => by simp [slotsRs]
  | r :: rs, ts => by rw [List.cons_append]; simp only [slotsRs, slotsRs_append rs ts, List.append_assoc]
mutual
theorem slotsR_len : ∀ r, (slotsR r).length = Td.cnt r
  | .ite _ _ y n => by simp only [slotsR, Td.cnt, List.length_cons, List.length_append, slotsRs_len y, slotsRs_len n]; omega
  | .rd .. => by simp [slotsR, Td.cnt]
  | .put .. => by simp [slotsR, Td.cnt]
  | .give .. => by simp [slotsR, Td.cnt]
  | .say .. => by simp [slotsR, Td.cnt]
  | .wr .. => by simp [slotsR, Td.cnt]
theorem slotsRs_len : ∀ rs, (slotsRs rs).length = cnts rs
  | [] => by simp [slotsRs, cnts]
  | r :: rs => by simp only [slotsRs, cnts, List.length_append, slotsR_len r, slotsRs_len rs]
end
theorem slotR_first (r : Row) : slotR r ∈ slotsR r := by cases r <;> simp [slotR, slotsR]
/-! ### rows some of whose reads became peeks -/
mutual
def pkR : Row → Row → Prop
  | .rd _ c s, t => ∃ pk, t = .rd pk c s
  | .ite s u y n, t => ∃ y' n', t = .ite s u y' n' ∧ pkRs y y' ∧ pkRs n n'
  | .put s u, t => t = .put s u
  | .give s, t => t = .give s
  | .say s, t => t = .say s
  | .wr c s, t => t = .wr c s
def pkRs : List Row → List Row → Prop
  | [], t => t = []
  | r :: rs, t => ∃ r' rs', t = r' :: rs' ∧ pkR r r' ∧ pkRs rs rs'
end
mutual
theorem pkR_refl : ∀ r, pkR r r
  | .rd pk c s => by unfold pkR; exact ⟨pk, rfl⟩
  | .ite s u y n => by unfold pkR; exact ⟨y, n, rfl, pkRs_refl y, pkRs_refl n⟩
  | .put .. => by unfold pkR; rfl
  | .give .. => by unfold pkR; rfl
  | .say .. => by unfold pkR; rfl
  | .wr .. => by unfold pkR; rfl
theorem pkRs_refl : ∀ rs, pkRs rs rs
  | [] => by unfold pkRs; rfl
  | r :: rs => by unfold pkRs; exact ⟨r, rs, rfl, pkR_refl r, pkRs_refl rs⟩
end
theorem pkRs_len : ∀ {rs ts}, pkRs rs ts → ts.length = rs.length
  | [], ts, h => by unfold pkRs at h; rw [h]
  | r :: rs, ts, h => by
    unfold pkRs at h
    obtain ⟨r', rs', rfl, _, h2⟩ := h
    rw [List.length_cons, List.length_cons, pkRs_len h2]
theorem pkRs_get : ∀ {rs ts : List Row} {i : Nat} {r : Row}, pkRs rs ts → rs[i]? = some r → ∃ t, ts[i]? = some t ∧ pkR r t
  | [], ts, i, r, _, e => by simp at e
  | x :: rs, ts, i, r, h, e => by
    unfold pkRs at h
    obtain ⟨r', rs', rfl, h1, h2⟩ := h
    cases i with
    | zero => cases e; exact ⟨r', rfl, h1⟩
    | succ i => exact pkRs_get (i := i) h2 (by simpa using e)
theorem pkRs_set : ∀ {rs ts : List Row} {i : Nat} {r t : Row}, pkRs rs ts → rs[i]? = some r → pkR r t → pkRs rs (ts.set i t)
  | [], ts, i, r, t, _, e, _ => by simp at e
  | x :: rs, ts, i, r, t, h, e, hp => by
    unfold pkRs at h ⊢
    obtain ⟨r', rs', rfl, h1, h2⟩ := h
    cases i with
    | zero => cases e; exact ⟨t, rs', rfl, hp, h2⟩
    | succ i => exact ⟨r', rs'.set i t, rfl, h1, pkRs_set (i := i) h2 (by simpa using e) hp⟩
theorem rowAt_two {rs : List Row} {i j : Int} {st : List Int} {r : Row} (h : rowAt rs (i :: j :: st) = some r) : ∃ (k : Nat) (s u : Str) (y n : List Row), i = (k : Nat) ∧ rs[k]? = some (.ite s u y n) ∧ ((j = 0 ∧ rowAt y st = some r) ∨ (j = 1 ∧ rowAt n st = some r)) := by
  unfold rowAt at h
  have hg : ∀ x, getI rs i = some x → ∃ k : Nat, i = (k : Nat) ∧ rs[k]? = some x := fun x e => by
    unfold getI at e
    split at e
    · exact ⟨i.toNat, by omega, e⟩
    · cases e
  split at h
  · rename_i s u y n e
    obtain ⟨k, e1, e2⟩ := hg _ e
    refine ⟨k, s, u, y, n, e1, e2, ?_⟩
    split at h
    · rename_i hj; exact .inl ⟨hj, h⟩
    · split at h
      · rename_i hj; exact .inr ⟨hj, h⟩
      · cases h
  · cases h
theorem rowAt_one {rs : List Row} {i : Int} {r : Row} (h : rowAt rs [i] = some r) : ∃ k : Nat, i = (k : Nat) ∧ rs[k]? = some r := by
  unfold rowAt getI at h
  split at h
  · exact ⟨i.toNat, by omega, h⟩
  · cases h
/-- the rows stay so when one more read becomes a peek -/
theorem pkRs_peek : ∀ (st : List Int) {rs ts : List Row} {pk : Bool} {c s : Str}, pkRs rs ts → rowAt rs st = some (.rd pk c s) → pkRs rs (setAt ts st (.rd true c s))
  | [], rs, ts, pk, c, s, _, e => by unfold rowAt at e; cases e
  | [i], rs, ts, pk, c, s, h, e => by
    obtain ⟨k, rfl, e⟩ := rowAt_one e
    show pkRs rs (ts.set ((k : Nat) : Int).toNat _)
    exact pkRs_set h e (by unfold pkR; exact ⟨true, rfl⟩)
  | i :: j :: st, rs, ts, pk, c, s, h, e => by
    obtain ⟨k, s', u, y, n, rfl, e1, e2⟩ := rowAt_two e
    obtain ⟨t, ht, hp⟩ := pkRs_get h e1
    unfold pkR at hp
    obtain ⟨y', n', rfl, hy, hn⟩ := hp
    unfold setAt
    rw [getI_nat, ht]
    show pkRs rs (if j = 0 then ts.set ((k : Nat) : Int).toNat _ else _)
    rcases e2 with ⟨rfl, e2⟩ | ⟨rfl, e2⟩
    · rw [if_pos rfl]
      exact pkRs_set h e1 (by unfold pkR; exact ⟨_, _, rfl, pkRs_peek st hy e2, hn⟩)
    · rw [if_neg (by decide)]
      exact pkRs_set h e1 (by unfold pkR; exact ⟨_, _, rfl, hy, pkRs_peek st hn e2⟩)
/-! ### a run beside its changed one -/
def heardS (st : RS) : List Str := (st.noted ++ st.peeked).map (·.1)
structure Sim (F : Str) (E : List Str) (st st' : RS) : Prop where
  sl : ∀ s, s ≠ F → getE st'.slots s = getE st.slots s
  sa : st'.said = st.said
  wr : st'.written = st.written
  gi : st'.given = st.given
  he : ∀ c, c ∈ heardS st' ↔ c ∈ E ∨ c ∈ heardS st
  pre : E <+: st'.noted.map (·.1)
theorem Sim.word {F : Str} {E : List Str} {st st' : RS} (h : Sim F E st st') (d : Str) {s : Str} (hs : s ≠ F) : st'.word d s = st.word d s := by
  unfold RS.word
  rw [h.sl s hs]
theorem putE_keys (L : Env) (k v c : Str) : c ∈ (putE L k v).map (·.1) ↔ c = k ∨ c ∈ L.map (·.1) := by
  unfold putE
  split
  · rename_i h
    have e : (L.map fun p => if p.1 = k then (p.1, v) else p).map (·.1) = L.map (·.1) := by
      rw [List.map_map]
      refine List.map_congr_left fun p _ => ?_
      show (if p.1 = k then (p.1, v) else p).1 = p.1
      split <;> rfl
    rw [e]
    refine ⟨.inr, fun h2 => h2.elim (fun e => ?_) id⟩
    obtain ⟨p, hp, e2⟩ := List.any_eq_true.mp h
    rw [e, ← of_decide_eq_true e2]
    exact List.mem_map_of_mem hp
  · rw [List.map_append, List.mem_append]
    exact ⟨fun h => h.elim .inr fun h => .inl (by simpa using h), fun h => h.elim (fun h => .inr (by simp [h])) .inl⟩
theorem getE_key {L : Env} {k : Str} (h : (getE L k).isSome = true) : k ∈ L.map (·.1) := by
  rw [← getE_any] at h
  obtain ⟨p, hp, e⟩ := List.any_eq_true.mp h
  rw [← of_decide_eq_true e]
  exact List.mem_map_of_mem hp
theorem sdE_keys (L : Env) (k v c : Str) : c ∈ (sdE L k v).map (·.1) ↔ c = k ∨ c ∈ L.map (·.1) := by
  unfold sdE
  split
  · rename_i h
    exact ⟨.inr, fun g => g.elim (fun e => by rw [e]; exact getE_key h) id⟩
  · exact putE_keys ..
theorem sdE_pre (L : Env) (k v : Str) : L.map (·.1) <+: (sdE L k v).map (·.1) := by
  unfold sdE
  split
  · exact List.prefix_refl _
  · rename_i h
    unfold putE
    rw [getE_any, if_neg h, List.map_append]
    exact List.prefix_append _ _
theorem heard_rd {pk : Bool} {c s : Str} {kn : Str → Str} {d : Str} {st : RS} (x : Str) : x ∈ heardS (runR kn d (.rd pk c s) st).1 ↔ x = c ∨ x ∈ heardS st := by
  unfold heardS
  simp only [runR, List.map_append, List.mem_append]
  cases pk
  · simp only [Bool.false_eq_true, if_false, sdE_keys, or_assoc]
  · simp only [if_true, sdE_keys]
    exact ⟨fun h => h.elim (fun h => .inr (.inl h)) fun h => h.elim .inl fun h => .inr (.inr h), fun h => h.elim (fun h => .inr (.inl h)) fun h => h.elim .inl fun h => .inr (.inr h)⟩
theorem rd_pre {pk : Bool} {c s : Str} {kn : Str → Str} {d : Str} {st : RS} : st.noted.map (·.1) <+: (runR kn d (.rd pk c s) st).1.noted.map (·.1) := by
  simp only [runR]
  cases pk
  · exact sdE_pre ..
  · exact List.prefix_refl _
mutual
theorem sim_R (kn : Str → Str) (d : Str) {F : Str} {E : List Str} : ∀ (r r' : Row) (st st' : RS), pkR r r' → F ∉ slotsR r → Sim F E st st' → (runR kn d r' st').2 = (runR kn d r st).2 ∧ Sim F E (runR kn d r st).1 (runR kn d r' st').1
  | .rd pk c s, r', st, st', hp, hF, h => by
    unfold pkR at hp
    obtain ⟨pk', rfl⟩ := hp
    refine ⟨rfl, fun z hz => ?_, h.sa, h.wr, h.gi, fun x => ?_, h.pre.trans rd_pre⟩
    · show getE (putE st'.slots s (kn c)) z = getE (putE st.slots s (kn c)) z
      rw [getE_put, getE_put, h.sl z hz]
    · rw [heard_rd, heard_rd, h.he]
      exact ⟨fun g => g.elim (fun g => .inr (.inl g)) fun g => g.elim .inl fun g => .inr (.inr g), fun g => g.elim (fun g => .inr (.inl g)) fun g => g.elim .inl fun g => .inr (.inr g)⟩
  | .put s u, r', st, st', hp, hF, h => by
    unfold pkR at hp
    subst hp
    refine ⟨rfl, fun z hz => ?_, h.sa, h.wr, h.gi, h.he, h.pre⟩
    show getE (putE st'.slots s u) z = getE (putE st.slots s u) z
    rw [getE_put, getE_put, h.sl z hz]
  | .give s, r', st, st', hp, hF, h => by
    unfold pkR at hp
    subst hp
    have hs : s ≠ F := fun e => hF (by unfold slotsR; rw [e]; exact List.mem_cons_self)
    exact ⟨rfl, h.sl, h.sa, h.wr, h.word d hs, h.he, h.pre⟩
  | .say s, r', st, st', hp, hF, h => by
    unfold pkR at hp
    subst hp
    have hs : s ≠ F := fun e => hF (by unfold slotsR; rw [e]; exact List.mem_cons_self)
    refine ⟨rfl, h.sl, ?_, h.wr, h.gi, h.he, h.pre⟩
    show st'.said ++ [st'.word d s] = st.said ++ [st.word d s]
    rw [h.sa, h.word d hs]
  | .wr c s, r', st, st', hp, hF, h => by
    unfold pkR at hp
    subst hp
    have hs : s ≠ F := fun e => hF (by unfold slotsR; rw [e]; exact List.mem_cons_self)
    refine ⟨rfl, h.sl, h.sa, ?_, h.gi, h.he, h.pre⟩
    show st'.written ++ [(c, st'.word d s)] = st.written ++ [(c, st.word d s)]
    rw [h.wr, h.word d hs]
  | .ite s u y n, r', st, st', hp, hF, h => by
    unfold pkR at hp
    obtain ⟨y', n', rfl, hy, hn⟩ := hp
    have hs : s ≠ F := fun e => hF (by unfold slotsR; rw [e]; exact List.mem_cons_self)
    have fy : F ∉ slotsRs y := fun e => hF (by unfold slotsR; exact List.mem_cons_of_mem _ (List.mem_append_left _ e))
    have fn : F ∉ slotsRs n := fun e => hF (by unfold slotsR; exact List.mem_cons_of_mem _ (List.mem_append_right _ e))
    simp only [runR, h.word d hs]
    split
    · exact sim_Rs kn d y y' st st' hy fy h
    · exact sim_Rs kn d n n' st st' hn fn h
theorem sim_Rs (kn : Str → Str) (d : Str) {F : Str} {E : List Str} : ∀ (rs ts : List Row) (st st' : RS), pkRs rs ts → F ∉ slotsRs rs → Sim F E st st' → (runRs kn d ts st').2 = (runRs kn d rs st).2 ∧ Sim F E (runRs kn d rs st).1 (runRs kn d ts st').1
  | [], ts, st, st', hp, _, h => by
    unfold pkRs at hp
    subst hp
    simp only [runRs]
    exact ⟨trivial, h⟩
  | r :: rs, ts, st, st', hp, hF, h => by
    unfold pkRs at hp
    obtain ⟨r', rs', rfl, h1, h2⟩ := hp
    have f1 : F ∉ slotsR r := fun e => hF (by unfold slotsRs; exact List.mem_append_left _ e)
    have f2 : F ∉ slotsRs rs := fun e => hF (by unfold slotsRs; exact List.mem_append_right _ e)
    obtain ⟨a, b⟩ := sim_R kn d r r' st st' h1 f1 h
    by_cases hr : (runR kn d r st).2 = true
    · rw [runRs_yes _ hr, runRs_yes _ (a.trans hr)]
      exact ⟨rfl, b⟩
    · rw [runRs_no _ hr, runRs_no _ (by rw [a]; exact hr)]
      exact sim_Rs kn d rs rs' _ _ h2 f2 b
end
/-! ### reads put ahead -/
def addC (E : List Str) (c : Str) : List Str := if c ∈ E then E else E ++ [c]
def earlyRs (F : Str) (cs : List Str) : List Row := cs.map fun c => .rd false c F
/-- the run of reads put ahead of everything -/
theorem early_run (kn : Str → Str) (d : Str) {F : Str} : ∀ (cs : List Str) (E : List Str) (st st' : RS), Sim F E st st' → heardS st = [] → st'.noted.map (·.1) = E → st'.peeked = [] →
    (runRs kn d (earlyRs F cs) st').2 = false ∧ Sim F (cs.foldl addC E) st (runRs kn d (earlyRs F cs) st').1
  | [], E, st, st', h, _, _, _ => ⟨rfl, h⟩
  | c :: cs, E, st, st', h, h0, hn, hp => by
    have e : earlyRs F (c :: cs) = .rd false c F :: earlyRs F cs := rfl
    have no : ¬ (runR kn d (.rd false c F) st').2 = true := fun z => by simp only [runR] at z; cases z
    rw [e, runRs_no _ no, List.foldl_cons]
    have hn2 : (runR kn d (.rd false c F) st').1.noted.map (·.1) = addC E c := by
      show (sdE st'.noted c (kn c)).map (·.1) = _
      unfold sdE addC
      by_cases hc : c ∈ E
      · rw [if_pos hc, if_pos, hn]
        rw [← getE_any]
        rw [← hn] at hc
        obtain ⟨p, hp, e⟩ := List.mem_map.mp hc
        exact List.any_eq_true.mpr ⟨p, hp, decide_eq_true e⟩
      · have ng : ¬ (getE st'.noted c).isSome = true := fun z => hc (by rw [← hn]; exact getE_key z)
        rw [if_neg hc, if_neg ng]
        unfold putE
        rw [getE_any, if_neg ng, List.map_append, hn]
        rfl
    refine early_run kn d cs (addC E c) st _ ⟨fun s hs => ?_, h.sa, h.wr, h.gi, fun x => ?_, ?_⟩ h0 hn2 hp
    · show getE (putE st'.slots F (kn c)) s = _
      rw [getE_put, if_neg hs, h.sl s hs]
    · rw [heard_rd, h.he, h0]
      unfold addC
      split
      · rename_i hc
        exact ⟨fun g => g.elim (fun g => .inl (by rw [g]; exact hc)) id, .inr⟩
      · rw [List.mem_append, List.mem_singleton]
        exact ⟨fun g => g.elim (fun g => .inl (.inr g)) fun g => g.elim (fun g => .inl (.inl g)) .inr, fun g => g.elim (fun g => g.elim (fun g => .inr (.inl g)) .inl) fun g => .inr (.inr g)⟩
    · rw [hn2]; exact List.prefix_refl _
theorem addC_mem : ∀ (cs E : List Str) (x : Str), x ∈ cs.foldl addC E ↔ x ∈ E ∨ x ∈ cs
  | [], E, x => by simp
  | c :: cs, E, x => by
    rw [List.foldl_cons, addC_mem cs]
    unfold addC
    split
    · rename_i h
      rw [List.mem_cons]
      exact ⟨fun g => g.elim .inl fun g => .inr (.inr g), fun g => g.elim .inl fun g => g.elim (fun g => .inl (by rw [g]; exact h)) .inr⟩
    · rw [List.mem_append, List.mem_singleton, List.mem_cons, or_assoc]
/-- the whole: reads ahead, then the rows with their peeks -/
theorem sim_all (kn : Str → Str) (d : Str) {F : Str} {rs ts : List Row} {cs : List Str} (hp : pkRs rs ts) (hF : F ∉ slotsRs rs) {st : RS} (h0 : st.noted = []) (h1 : st.peeked = []) :
    (runRs kn d (earlyRs F cs ++ ts) st).2 = (runRs kn d rs st).2 ∧ Sim F (cs.foldl addC []) (runRs kn d rs st).1 (runRs kn d (earlyRs F cs ++ ts) st).1 := by
  have hs : heardS st = [] := by unfold heardS; rw [h0, h1]; rfl
  obtain ⟨a, b⟩ := early_run kn d (F := F) cs [] st st ⟨fun _ _ => rfl, rfl, rfl, rfl, fun x => by simp, List.nil_prefix⟩ hs (by rw [h0]; rfl) h1
  rw [runRs_append, a, if_neg Bool.false_ne_true]
  exact sim_Rs kn d rs ts st _ hp hF b
end Td
/-! A datum in a list of data. -/
namespace Td
open PySem PySem.Spec PyProof.Rows L2
def hasD (d : PyData) (ds : List PyData) : Bool := ds.any fun z => PyData.eqv z d
def rInDL (K : PySem.W.Frag) (neg : Bool) : R2 := fun x y H Q => ∃ d ds, Dp K H x d ∧ Dp K H y (.list ds) ∧ SeqAt.shaped d = true ∧ SeqAt.shaped (.list ds) = true ∧ Q (.bl (if neg then !hasD d ds else hasD d ds)) H
section
variable {X : Cx}
theorem op_inDL (hu : X.A.units + 65 < cLine) : OpR X (compareOp .In) (rInDL X.K false) := by
  intro pins s σ H x y v u Q I rx ry ⟨d, ds, h1, h2, e1, e2, q⟩
  obtain ⟨la, a⟩ := Dp.reads I d x v h1 rx
  obtain ⟨lb, b⟩ := Dp.reads I (.list ds) y u h2 ry
  exact SeqAt.in_list_reads b a (SeqAt.canLay_of_shaped e2) (SeqAt.canLay_of_shaped e1) (room_in_shaped e1 hu) ⟨.bl _, H, I, rfl, q⟩
theorem op_ninDL (hu : X.A.units + 65 < cLine) : OpR X (compareOp .NotIn) (rInDL X.K true) := by
  intro pins s σ H x y v u Q I rx ry ⟨d, ds, h1, h2, e1, e2, q⟩
  obtain ⟨la, a⟩ := Dp.reads I d x v h1 rx
  obtain ⟨lb, b⟩ := Dp.reads I (.list ds) y u h2 ry
  exact SeqAt.notIn_list_reads b a (SeqAt.canLay_of_shaped e2) (SeqAt.canLay_of_shaped e1) (room_in_shaped e1 hu) ⟨.bl _, H, I, rfl, q⟩
theorem op_ninDT (hu : X.A.units + 65 < cLine) : OpR X (compareOp .NotIn) (rInDT X.K true) := by
  intro pins s σ H x y v u Q I rx ry ⟨d, ds, h1, h2, e1, e2, q⟩
  obtain ⟨la, a⟩ := Dp.reads I d x v h1 rx
  obtain ⟨lb, b⟩ := Dp.reads I (.tuple ds) y u h2 ry
  exact SeqAt.notIn_tuple_reads b a (SeqAt.canLay_of_shaped e2) (SeqAt.canLay_of_shaped e1) (room_in_shaped e1 hu) ⟨.bl _, H, I, rfl, q⟩
end
end Td
/-! enumerate of a list. -/
namespace Td
open PySem PySem.Spec PyProof.Rows L2
theorem for_enumL {K : PySem.W.Frag} {l : Addr} {zs : List V} {g : TG} {tb : TS} {D : Ends} {τ : L2.St} {G : Hp} (J : Nat → L2.St → Hp → Prop) (start : J 0 τ G) (there : ∀ i τ G, i ≤ zs.length → J i τ G → SqL K G l zs)
    (turn : ∀ (i : Nat) (z : V) (τ : L2.St) (G : Hp) (t : Addr), zs[i]? = some z → J i τ G → G t = none → g (.ref t) τ (upd G t (.tup [.int (i : Nat), z])) fun τ2 G2 => tb { D with nx := J (i + 1), ct := J (i + 1), bk := D.nx } τ2 G2)
    (over : ∀ τ G, J zs.length τ G → D.nx τ G) :
    ∃ W : Nat → Nat → L2.St → Hp → Prop, (∃ m, W 0 m τ G) ∧ ∀ i m τ G, W i m τ G →
      ((Ite K l).stop i G ∧ D.nx τ G) ∨ ((Ite K l).go i G ∧ ∃ N : L2.St → Hp → Prop, (∀ τ' G', N τ' G' → ∃ m', m' < m ∧ W (i + 1) m' τ' G') ∧
        ∀ x G', (Ite K l).yld i G x G' → g x τ G' fun τ2 G2 => tb { D with nx := N, ct := N, bk := D.nx } τ2 G2) := by
  refine ⟨fun i m τ G => m + i = zs.length ∧ J i τ G, ⟨zs.length, rfl, start⟩, fun i m τ G ⟨em, j⟩ => ?_⟩
  have here := there i τ G (by omega) j
  rcases Nat.lt_or_ge i zs.length with lt | ge
  · refine .inr ⟨⟨zs, zs[i], here, List.getElem?_eq_getElem lt⟩, J (i + 1), fun τ' G' j' => ⟨m - 1, by omega, by omega, j'⟩, ?_⟩
    rintro x G' ⟨t, z, rfl, ft, rfl, at_⟩
    exact turn i z τ G t (at_ zs here) j ft
  · have e : i = zs.length := by omega
    rw [e] at j
    exact .inl ⟨⟨zs, here, ge⟩, over τ G j⟩
end Td
/-! == of two dicts that hold data. -/
namespace Td
open PySem PySem.Spec PyProof.Rows L2
/-- one dict's values against the other's -/
def hitsV (K : PySem.W.Frag) (H : Hp) (ls : List (Key × V)) : List (Key × V) → Bool → Prop
  | [], r => r = true
  | p :: ps, r => ∃ (u : V) (d e : PyData) (r' : Bool), valV ls p.1 = some u ∧ Dp K H p.2 d ∧ Dp K H u e ∧ d.canLay0 = true ∧ e.canLay0 = true ∧ d.depth ≤ 60 ∧ hitsV K H ls ps r' ∧ r = (PyData.eqv d e && r')
def rEqK (K : PySem.W.Frag) : R2 := fun x y H Q => ∃ (a b : Addr) (ks ls : List (Key × V)) (r : Bool), x = .ref a ∧ y = .ref b ∧ H a = some (.dK ks) ∧ H b = some (.dK ls) ∧ ks.length = ls.length ∧ hitsV K H ls ks r ∧ Q (.bl r) H
section
variable {X : Cx} {pins : List (Addr × Obj)} {σ : L2.St} {H : Hp} {s : Shared}
theorem hits_data (I : Inv X pins σ H s) {A : Around} (hu : A.units + 60 < cLine) {ls : List (Key × V)} {vb : List (Key × Value)} (rb : KV ls vb) : ∀ {ks : List (Key × V)} {va : List (Key × Value)} {r : Bool}, KV ks va → hitsV X.K H ls ks r → PySem.W.KeqHitsP X.prog X.w A s vb va r
  | [], _, r, .nil, h => by
    have h : r = true := h
    subst h
    exact .nil
  | p :: ps, _, r, .cons (b := q) h t, hp => by
    obtain ⟨u, d, e, r', e1, d1, d2, c1, c2, l, hr, rfl⟩ := hp
    obtain ⟨h1, h2⟩ := h
    have rr : RelO (some u) (valueAt vb p.1) := by rw [← e1]; exact rb.val p.1
    obtain ⟨y, hy, ry⟩ := rr.some_of
    obtain ⟨key, v⟩ := q
    have h1' : p.1 = key := h1
    rw [h1'] at hy
    obtain ⟨as, g1⟩ := Dp.reads I d p.2 v d1 h2
    obtain ⟨bs, g2⟩ := Dp.reads I e u y d2 ry
    exact .hit hy (SeqAt.EqAt.eqP (SeqAt.eqAt_reads d e A s v y as bs g1 g2 c1 c2 (by have := Nat.min_le_left d.depth e.depth; omega))) (hits_data I hu rb t hr)
theorem op_eqK (hu : X.A.units + 64 < cLine) : OpR X (compareOp .Eq) (rEqK X.K) := by
  intro pins s σ H x y v u Q I rx ry h
  obtain ⟨a, b, ks, ls, r, rfl, rfl, ea, eb, hl, hh, q⟩ := h
  obtain rfl : v = .ref a := rx
  obtain rfl : u = .ref b := ry
  obtain ⟨_, ya, va, ra, da⟩ := dk_of I.hok ea
  obtain ⟨_, yb, vb, rb, db⟩ := dk_of I.hok eb
  refine PySem.W.rcP_dicts (knd := mixKind X.prog X.w) (r := r) ya yb da db (by omega) (fun _ => hits_data I (A := X.A.in1) (by show X.A.units + 1 + 60 < cLine; omega) rb ra hh) _ _ ?_
  have e : (va.length == vb.length && r) = r := by
    have h1 : va.length = vb.length := by rw [← Paired.length ra, ← Paired.length rb, hl]
    rw [h1]; simp
  rw [e]
  exact ⟨.bl r, H, I, rfl, q⟩
end
/-! ### the data of an answer -/
theorem wr_eqv (p q : Str × Str) : PyData.eqv (wrD p) (wrD q) = decide (p = q) := by
  obtain ⟨a, b⟩ := p
  obtain ⟨c, d⟩ := q
  unfold wrD
  simp only [PyData.eqv, PyData.eqvAll, Prod.mk.injEq, Bool.and_true, Bool.decide_and]
  congr 1
theorem env_eqvAll : ∀ L M : Env, PyData.eqvAll (L.map wrD) (M.map wrD) = decide (L = M)
  | [], [] => rfl
  | [], _ :: _ => rfl
  | _ :: _, [] => rfl
  | p :: L, q :: M => by
    rw [List.map_cons, List.map_cons]
    simp only [PyData.eqvAll, wr_eqv, env_eqvAll L M, List.cons.injEq, Bool.decide_and]
theorem strs_eqvAll : ∀ L M : List Str, PyData.eqvAll (L.map PyData.str) (M.map PyData.str) = decide (L = M)
  | [], [] => rfl
  | [], _ :: _ => rfl
  | _ :: _, [] => rfl
  | p :: L, q :: M => by
    rw [List.map_cons, List.map_cons]
    simp only [PyData.eqvAll, PyData.eqv, strs_eqvAll L M, List.cons.injEq, Bool.decide_and]
    congr 1
theorem nm_ok {z : Str} (h : isNm z = true) : PyData.strOk z = true := by
  unfold isNm at h
  simp only [Bool.and_eq_true] at h
  have h2 := h.2
  unfold PyData.strOk
  rw [← Array.all_toList]
  rw [List.all_eq_true] at h2 ⊢
  intro c hc
  have := h2 c hc
  unfold lowc at this
  simp only [Bool.and_eq_true, decide_eq_true_eq] at this
  exact decide_eq_true (by omega)
theorem env_lay : ∀ L : Env, (∀ p ∈ L, isNm p.1 = true ∧ isNm p.2 = true) → PyData.canLayAll0 (L.map wrD) = true
  | [], _ => rfl
  | p :: L, h => by
    have h1 := h p List.mem_cons_self
    have h2 := env_lay L fun q hq => h q (List.mem_cons_of_mem _ hq)
    rw [List.map_cons]
    unfold wrD at h2 ⊢
    simp only [PyData.canLayAll0, PyData.canLay0, nm_ok h1.1, nm_ok h1.2, h2]
    rfl
theorem strs_lay : ∀ L : List Str, (∀ z ∈ L, isNm z = true) → PyData.canLayAll0 (L.map PyData.str) = true
  | [], _ => rfl
  | p :: L, h => by
    have h2 := strs_lay L fun q hq => h q (List.mem_cons_of_mem _ hq)
    rw [List.map_cons]
    simp only [PyData.canLayAll0, PyData.canLay0, nm_ok (h p List.mem_cons_self), h2]
    rfl
theorem env_deep : ∀ L : Env, PyData.depthAll (L.map wrD) ≤ 2
  | [] => by simp [PyData.depthAll]
  | p :: L => by
    rw [List.map_cons]
    unfold wrD
    have := env_deep L
    unfold wrD at this
    simp only [PyData.depthAll, PyData.depth]
    omega
theorem strs_deep : ∀ L : List Str, PyData.depthAll (L.map PyData.str) ≤ 2
  | [] => by simp [PyData.depthAll]
  | p :: L => by
    rw [List.map_cons]
    have := strs_deep L
    simp only [PyData.depthAll, PyData.depth]
    omega
/-! ### all that a run holds are names -/
structure RS.Nm (st : RS) : Prop where
  sl : ∀ p ∈ st.slots, isNm p.2 = true
  no : ∀ p ∈ st.noted, isNm p.1 = true ∧ isNm p.2 = true
  pe : ∀ p ∈ st.peeked, isNm p.1 = true ∧ isNm p.2 = true
  sa : ∀ z ∈ st.said, isNm z = true
  wr : ∀ p ∈ st.written, isNm p.1 = true ∧ isNm p.2 = true
  gi : isNm st.given = true
structure ScNm (S : Sc) (kn : Str → Str) : Prop where
  rd : ∀ c ∈ S.readable, isNm c = true ∧ isNm (kn c) = true
  so : ∀ c ∈ S.sources, isNm c = true
  wo : ∀ c ∈ S.words, isNm c = true
theorem put_mem {L : Env} {k v : Str} {p : Str × Str} (h : p ∈ putE L k v) : p ∈ L ∨ (p.1 = k ∧ p.2 = v) := by
  unfold putE at h
  split at h
  · obtain ⟨q, hq, e⟩ := List.mem_map.mp h
    split at e
    · rename_i e2
      subst e
      exact .inr ⟨e2, rfl⟩
    · subst e; exact .inl hq
  · rcases List.mem_append.mp h with h | h
    · exact .inl h
    · rw [List.mem_singleton] at h
      subst h
      exact .inr ⟨rfl, rfl⟩
theorem sd_mem {L : Env} {k v : Str} {p : Str × Str} (h : p ∈ sdE L k v) : p ∈ L ∨ (p.1 = k ∧ p.2 = v) := by
  unfold sdE at h
  split at h
  · exact .inl h
  · exact put_mem h
theorem get_has {L : Env} {k u : Str} (h : getE L k = some u) : ∃ p ∈ L, p.2 = u := by
  unfold getE at h
  obtain ⟨p, hp, e⟩ := Option.map_eq_some_iff.mp h
  exact ⟨p, List.mem_of_find?_eq_some hp, e⟩
theorem word_nm {st : RS} {d s : Str} (h : st.Nm) (hd : isNm d = true) : isNm (st.word d s) = true := by
  unfold RS.word
  cases e : getE st.slots s with
  | none => exact hd
  | some u =>
    obtain ⟨p, hp, rfl⟩ := get_has e
    exact h.sl p hp
mutual
theorem nm_R {S : Sc} {kn : Str → Str} {d : Str} (hS : ScNm S kn) (hd : isNm d = true) : ∀ (r : Row) (dep : Nat) (st : RS), okR S dep r → st.Nm → (runR kn d r st).1.Nm
  | .rd pk c s, dep, st, ok, h => by
    unfold okR at ok
    obtain ⟨c1, c2⟩ := hS.rd c ok.2.1
    have hs : ∀ p ∈ putE st.slots s (kn c), isNm p.2 = true := fun p hp => by
      rcases put_mem hp with q | ⟨_, e⟩
      · exact h.sl p q
      · rw [e]; exact c2
    have hg : ∀ L : Env, (∀ p ∈ L, isNm p.1 = true ∧ isNm p.2 = true) → ∀ p ∈ sdE L c (kn c), isNm p.1 = true ∧ isNm p.2 = true := fun L hL p hp => by
      rcases sd_mem hp with q | ⟨e1, e2⟩
      · exact hL p q
      · rw [e1, e2]; exact ⟨c1, c2⟩
    simp only [runR]
    cases pk
    · exact ⟨hs, hg _ h.no, h.pe, h.sa, h.wr, h.gi⟩
    · exact ⟨hs, h.no, hg _ h.pe, h.sa, h.wr, h.gi⟩
  | .put s u, dep, st, ok, h => by
    unfold okR at ok
    simp only [runR]
    refine ⟨fun p hp => ?_, h.no, h.pe, h.sa, h.wr, h.gi⟩
    rcases put_mem hp with q | ⟨_, e⟩
    · exact h.sl p q
    · rw [e]; exact hS.wo u ok.2
  | .give s, dep, st, ok, h => by
    simp only [runR]
    exact ⟨h.sl, h.no, h.pe, h.sa, h.wr, word_nm h hd⟩
  | .say s, dep, st, ok, h => by
    simp only [runR]
    refine ⟨h.sl, h.no, h.pe, fun z hz => ?_, h.wr, h.gi⟩
    rcases List.mem_append.mp hz with q | q
    · exact h.sa z q
    · rw [List.mem_singleton.mp q]; exact word_nm h hd
  | .wr c s, dep, st, ok, h => by
    unfold okR at ok
    simp only [runR]
    refine ⟨h.sl, h.no, h.pe, h.sa, fun p hp => ?_, h.gi⟩
    rcases List.mem_append.mp hp with q | q
    · exact h.wr p q
    · rw [List.mem_singleton.mp q]; exact ⟨hS.so c ok.2.1, word_nm h hd⟩
  | .ite s u y n, dep, st, ok, h => by
    unfold okR at ok
    simp only [runR]
    split
    · exact nm_Rs hS hd y (dep + 1) st ok.2.2.2.1 h
    · exact nm_Rs hS hd n (dep + 1) st ok.2.2.2.2 h
theorem nm_Rs {S : Sc} {kn : Str → Str} {d : Str} (hS : ScNm S kn) (hd : isNm d = true) : ∀ (rs : List Row) (dep : Nat) (st : RS), okRs S dep rs → st.Nm → (runRs kn d rs st).1.Nm
  | [], dep, st, ok, h => by simp only [runRs]; exact h
  | r :: rs, dep, st, ok, h => by
    unfold okRs at ok
    have h1 := nm_R hS hd r dep st ok.1 h
    by_cases hb : (runR kn d r st).2 = true
    · rw [runRs_yes _ hb]; exact h1
    · rw [runRs_no _ hb]; exact nm_Rs hS hd rs dep _ ok.2 h1
end
end Td
/-! The head's look for own exceptions of one field. -/
namespace Td
open PySem PySem.Spec PyProof.Rows L2
def mroVE (C : Addr) : List Value → Bool
  | .ref D :: bm => decide (D = C) && PySem.HandSPX.refsVE bm
  | _ => false
theorem mroVE_ok {C : Addr} {l : List Value} (h : mroVE C l = true) : ∃ bm, l = .ref C :: bm ∧ PySem.HandSPX.refsVE bm = true := by
  unfold mroVE at h
  split at h
  · rename_i D bm
    obtain ⟨h1, h2⟩ := He.ba h
    exact ⟨bm, by rw [of_decide_eq_true h1], h2⟩
  · cases h
def newVE : List (Option Value) → Bool
  | [_, _, _, _, some (.builtin n), _] => n == "ValueError.__new__"
  | _ => false
theorem newVE_ok {l : List (Option Value)} (h : newVE l = true) : ∃ k0 k1 k2 k3 k5, l = [k0, k1, k2, k3, some (.builtin "ValueError.__new__"), k5] := by
  unfold newVE at h
  split at h
  · rename_i k0 k1 k2 k3 n k5
    exact ⟨k0, k1, k2, k3, k5, by rw [of_decide_eq_true h]⟩
  · cases h
def oexCls (K : PySem.W.Frag) (C : Addr) : Bool := match K.lookup C with
  | some ⟨.type "type", _, .cls cd, sl⟩ => cd.hasDict && (!cd.hasDel && (mroVE C cd.mro && newVE sl.toList))
  | _ => false
def oexB (K : PySem.W.Frag) (C : Addr) : Bool := oexCls K C && (He.eqO (PySem.W.findIn K (.ref C) "__setattr__") (some (some (.builtin "object.__setattr__"))) && (decide (PySem.W.subIn K (.ref C) (.type "BaseException") = some true) && (decide (PySem.W.typeIn K (.ref C) = some (.type "type")) && PySem.W.keepIn K (.ref C))))
theorem oexB_ok {K : PySem.W.Frag} {C : Addr} (h : oexB K C = true) : OexC K C := by
  obtain ⟨c1, h⟩ := He.ba h
  obtain ⟨c2, h⟩ := He.ba h
  obtain ⟨c3, h⟩ := He.ba h
  obtain ⟨c4, c5⟩ := He.ba h
  refine ⟨?_, He.eqO_ok c2, of_decide_eq_true c3, of_decide_eq_true c4, c5⟩
  unfold oexCls at c1
  split at c1
  · rename_i dd cd sl e
    obtain ⟨d1, c1⟩ := He.ba c1
    obtain ⟨d2, c1⟩ := He.ba c1
    obtain ⟨d3, d4⟩ := He.ba c1
    obtain ⟨bm, em, hm⟩ := mroVE_ok d3
    obtain ⟨k0, k1, k2, k3, k5, es⟩ := newVE_ok d4
    obtain ⟨nm, bs, mro, ns, qn, hd, sn, sb, ab, col, del⟩ := cd
    obtain ⟨sl⟩ := sl
    dsimp only at d1 d2 em es
    subst em es d1
    have d2' : del = false := by simpa using d2
    subst d2'
    exact ⟨nm, qn, ns, bs, bm, sn, sb, ab, col, dd, k0, k1, k2, k3, k5, e, hm⟩
  · cases c1
/-- an own exception class, its __init__ and its one field -/
def excB (K : PySem.W.Frag) (x f : Str) : Bool := oexB K (He.ga K x) && (He.eqO (PySem.W.findIn K (.ref (He.ga K x)) "__init__") (some (some (.ref (He.fAd K (x, some "__init__"))))) && (decide (PySem.W.typeIn K (.ref (He.fAd K (x, some "__init__"))) = some (.type "function")) && (He.eqO (PySem.W.findIn K (.ref (He.ga K x)) f) (some none) && xfB K (He.ga K x))))
theorem excB_ok {K : PySem.W.Frag} {x f : Str} (h : excB K x f = true) : OexC K (He.ga K x) ∧ PySem.W.findIn K (.ref (He.ga K x)) "__init__" = some (some (.ref (He.fAd K (x, some "__init__")))) ∧ PySem.W.typeIn K (.ref (He.fAd K (x, some "__init__"))) = some (.type "function") ∧
    PySem.W.findIn K (.ref (He.ga K x)) f = some none ∧ XfC K (He.ga K x) := by
  obtain ⟨c1, h⟩ := He.ba h
  obtain ⟨c2, h⟩ := He.ba h
  obtain ⟨c3, h⟩ := He.ba h
  obtain ⟨c4, c5⟩ := He.ba h
  exact ⟨oexB_ok c1, He.eqO_ok c2, of_decide_eq_true c3, He.eqO_ok c4, xfB_ok c5⟩
end Td
/-! The head's look for isinstance of caught errors, of own objects, and for own ==. -/
namespace Td
open PySem PySem.Spec PyProof.Rows L2
def clsB (K : PySem.W.Frag) (C : Addr) : Bool := He.eqO (PySem.W.findIn K (.ref C) "__class__") (some (some (.builtin "object.__class__"))) && (He.eqO (PySem.W.specialIn K (.builtin "object.__class__") "__get__") (some (some (.builtin "getset_descriptor.__get__"))) &&
  (decide (PySem.W.takesIn K (.builtin "object.__class__") = some true) && decide (PySem.W.mroIn K C (.type "object") = some true)))
def askB (K : PySem.W.Frag) (C : Addr) : Bool := clsB K C && (He.eqO (PySem.W.findIn K (.ref C) "__getattribute__") (some (some (.builtin "BaseException.__getattribute__"))) && (He.eqO (PySem.W.findIn K (.ref C) "__getattr__") (some none) &&
  (decide (PySem.W.subIn K (.ref C) (.type "BaseException") = some true) && PySem.W.hasDictIn K C)))
theorem askB_ok {K : PySem.W.Frag} {C : Addr} (h : askB K C = true) : ExcC K C := by
  obtain ⟨c0, h⟩ := He.ba h
  obtain ⟨c1, h⟩ := He.ba h
  obtain ⟨c2, h⟩ := He.ba h
  obtain ⟨c3, c4⟩ := He.ba h
  obtain ⟨d1, d⟩ := He.ba c0
  obtain ⟨d2, d⟩ := He.ba d
  obtain ⟨d3, d4⟩ := He.ba d
  exact ⟨He.eqO_ok c1, He.eqO_ok c2, of_decide_eq_true c3, c4, He.eqO_ok d1, He.eqO_ok d2, of_decide_eq_true d3, of_decide_eq_true d4⟩
def ownB (K : PySem.W.Frag) (C : Addr) : Bool := clsB K C && decide (PySem.W.kitOne K (.ref C) (.ref C) = some true)
theorem ownB_ok {K : PySem.W.Frag} {C : Addr} (l : Cls K C) (h : ownB K C = true) : C8.InsC K C := by
  obtain ⟨c0, c1⟩ := He.ba h
  obtain ⟨d1, d⟩ := He.ba c0
  obtain ⟨d2, d⟩ := He.ba d
  obtain ⟨d3, d4⟩ := He.ba d
  exact ⟨l, He.eqO_ok d1, He.eqO_ok d2, of_decide_eq_true d3, of_decide_eq_true d4, of_decide_eq_true c1⟩
def kitB (K : PySem.W.Frag) (t u : Value) (b : Bool) : Bool := decide (PySem.W.kitOne K t u = some b)
end Td
namespace K77
open PySem PySem.Spec PyProof.Rows L2 Td
def top (i : Nat) : Stmt := PySem.Challenge.pw_toldonward_k77_whole_changes_made.main.body.getD i (.Pass ⟨0, 0, 0, 0⟩)
abbrev s_is_integer : Stmt := top 3
abbrev N_is_integer : List Str := ["value"]
theorem sc_is_integer : FnScope N_is_integer ["value"] (defScope s_is_integer) := ⟨rfl, rfl, rfl, by decide +kernel, rfl, by decide +kernel, by decide +kernel⟩
abbrev s_is_name : Stmt := top 4
abbrev N_is_name : List Str := ["value", "letter"]
theorem sc_is_name : FnScope N_is_name ["value"] (defScope s_is_name) := ⟨rfl, rfl, rfl, by decide +kernel, rfl, by decide +kernel, by decide +kernel⟩
abbrev s_are_names : Stmt := top 5
abbrev N_are_names : List Str := ["value", "least", "most", "item"]
theorem sc_are_names : FnScope N_are_names ["value", "least", "most"] (defScope s_are_names) := ⟨rfl, rfl, rfl, by decide +kernel, rfl, by decide +kernel, by decide +kernel⟩
abbrev s_are_named_pairs : Stmt := top 6
abbrev N_are_named_pairs : List Str := ["value", "most", "taken", "before", "pair"]
theorem sc_are_named_pairs : FnScope N_are_named_pairs ["value", "most", "taken"] (defScope s_are_named_pairs) := ⟨rfl, rfl, rfl, by decide +kernel, rfl, by decide +kernel, by decide +kernel⟩
abbrev s_InvalidProgram_init : Stmt := inClass (top 9) 0
abbrev N_InvalidProgram_init : List Str := ["self", "part", "path"]
theorem sc_InvalidProgram_init : FnScope N_InvalidProgram_init ["self", "part", "path"] (defScope s_InvalidProgram_init) := ⟨rfl, rfl, rfl, by decide +kernel, rfl, by decide +kernel, by decide +kernel⟩
abbrev s_InvalidPath_init : Stmt := inClass (top 10) 0
abbrev N_InvalidPath_init : List Str := ["self", "path"]
theorem sc_InvalidPath_init : FnScope N_InvalidPath_init ["self", "path"] (defScope s_InvalidPath_init) := ⟨rfl, rfl, rfl, by decide +kernel, rfl, by decide +kernel, by decide +kernel⟩
abbrev s_UnknownCell_init : Stmt := inClass (top 11) 0
abbrev N_UnknownCell_init : List Str := ["self", "name"]
theorem sc_UnknownCell_init : FnScope N_UnknownCell_init ["self", "name"] (defScope s_UnknownCell_init) := ⟨rfl, rfl, rfl, by decide +kernel, rfl, by decide +kernel, by decide +kernel⟩
abbrev s_InvalidChange_init : Stmt := inClass (top 12) 0
abbrev N_InvalidChange_init : List Str := ["self", "index"]
theorem sc_InvalidChange_init : FnScope N_InvalidChange_init ["self", "index"] (defScope s_InvalidChange_init) := ⟨rfl, rfl, rfl, by decide +kernel, rfl, by decide +kernel, by decide +kernel⟩
abbrev s_Scope_init : Stmt := inClass (top 17) 0
abbrev N_Scope_init : List Str := ["self", "kind", "words", "sources", "readable"]
theorem sc_Scope_init : FnScope N_Scope_init ["self", "kind", "words", "sources", "readable"] (defScope s_Scope_init) := ⟨rfl, rfl, rfl, by decide +kernel, rfl, by decide +kernel, by decide +kernel⟩
abbrev s_is_read_row : Stmt := top 18
abbrev N_is_read_row : List Str := ["row", "scope"]
theorem sc_is_read_row : FnScope N_is_read_row ["row", "scope"] (defScope s_is_read_row) := ⟨rfl, rfl, rfl, by decide +kernel, rfl, by decide +kernel, by decide +kernel⟩
abbrev s_is_put_row : Stmt := top 19
abbrev N_is_put_row : List Str := ["row", "scope"]
theorem sc_is_put_row : FnScope N_is_put_row ["row", "scope"] (defScope s_is_put_row) := ⟨rfl, rfl, rfl, by decide +kernel, rfl, by decide +kernel, by decide +kernel⟩
abbrev s_is_if_row : Stmt := top 20
abbrev N_is_if_row : List Str := ["row", "scope"]
theorem sc_is_if_row : FnScope N_is_if_row ["row", "scope"] (defScope s_is_if_row) := ⟨rfl, rfl, rfl, by decide +kernel, rfl, by decide +kernel, by decide +kernel⟩
abbrev s_is_slot_row : Stmt := top 21
abbrev N_is_slot_row : List Str := ["row", "scope"]
theorem sc_is_slot_row : FnScope N_is_slot_row ["row", "scope"] (defScope s_is_slot_row) := ⟨rfl, rfl, rfl, by decide +kernel, rfl, by decide +kernel, by decide +kernel⟩
abbrev s_is_write_row : Stmt := top 22
abbrev N_is_write_row : List Str := ["row", "scope"]
theorem sc_is_write_row : FnScope N_is_write_row ["row", "scope"] (defScope s_is_write_row) := ⟨rfl, rfl, rfl, by decide +kernel, rfl, by decide +kernel, by decide +kernel⟩
abbrev s_check_of : Stmt := top 25
abbrev N_check_of : List Str := ["kind", "form"]
theorem sc_check_of : FnScope N_check_of ["kind", "form"] (defScope s_check_of) := ⟨rfl, rfl, rfl, by decide +kernel, rfl, by decide +kernel, by decide +kernel⟩
abbrev s_is_valid_row : Stmt := top 26
abbrev N_is_valid_row : List Str := ["row", "scope", "depth", "fits"]
theorem sc_is_valid_row : FnScope N_is_valid_row ["row", "scope", "depth"] (defScope s_is_valid_row) := ⟨rfl, rfl, rfl, by decide +kernel, rfl, by decide +kernel, by decide +kernel⟩
abbrev s_first_wrong_path : Stmt := top 27
abbrev N_first_wrong_path : List Str := ["rows", "scope", "base", "depth", "place", "row", "path", "branch", "wrong"]
theorem sc_first_wrong_path : FnScope N_first_wrong_path ["rows", "scope", "base", "depth"] (defScope s_first_wrong_path) := ⟨rfl, rfl, rfl, by decide +kernel, rfl, by decide +kernel, by decide +kernel⟩
abbrev s_paths_of_rows : Stmt := top 28
abbrev N_paths_of_rows : List Str := ["rows", "base", "paths", "place", "row", "path", "branch"]
theorem sc_paths_of_rows : FnScope N_paths_of_rows ["rows", "base"] (defScope s_paths_of_rows) := ⟨rfl, rfl, rfl, by decide +kernel, rfl, by decide +kernel, by decide +kernel⟩
abbrev s_row_behind : Stmt := top 29
abbrev N_row_behind : List Str := ["rows", "steps", "row"]
theorem sc_row_behind : FnScope N_row_behind ["rows", "steps"] (defScope s_row_behind) := ⟨rfl, rfl, rfl, by decide +kernel, rfl, by decide +kernel, by decide +kernel⟩
abbrev s_rows_with : Stmt := top 30
abbrev N_rows_with : List Str := ["rows", "steps", "row", "place", "changed", "holder", "at", "inner"]
theorem sc_rows_with : FnScope N_rows_with ["rows", "steps", "row"] (defScope s_rows_with) := ⟨rfl, rfl, rfl, by decide +kernel, rfl, by decide +kernel, by decide +kernel⟩
abbrev s_slots_in : Stmt := top 31
abbrev N_slots_in : List Str := ["rows", "slots", "row"]
theorem sc_slots_in : FnScope N_slots_in ["rows"] (defScope s_slots_in) := ⟨rfl, rfl, rfl, by decide +kernel, rfl, by decide +kernel, by decide +kernel⟩
abbrev s_Program_init : Stmt := inClass (top 39) 0
abbrev N_Program_init : List Str := ["self", "words", "sources", "derived", "effects"]
theorem sc_Program_init : FnScope N_Program_init ["self", "words", "sources", "derived", "effects"] (defScope s_Program_init) := ⟨rfl, rfl, rfl, by decide +kernel, rfl, by decide +kernel, by decide +kernel⟩
abbrev s_Program_eq : Stmt := inClass (top 39) 1
abbrev N_Program_eq : List Str := ["self", "other"]
theorem sc_Program_eq : FnScope N_Program_eq ["self", "other"] (defScope s_Program_eq) := ⟨rfl, rfl, rfl, by decide +kernel, rfl, by decide +kernel, by decide +kernel⟩
abbrev s_Program_cells : Stmt := inClass (top 39) 2
abbrev N_Program_cells : List Str := ["self"]
theorem sc_Program_cells : FnScope N_Program_cells ["self"] (defScope s_Program_cells) := ⟨rfl, rfl, rfl, by decide +kernel, rfl, by decide +kernel, by decide +kernel⟩
abbrev s_Program_derived_names : Stmt := inClass (top 39) 3
abbrev N_Program_derived_names : List Str := ["self"]
theorem sc_Program_derived_names : FnScope N_Program_derived_names ["self"] (defScope s_Program_derived_names) := ⟨rfl, rfl, rfl, by decide +kernel, rfl, by decide +kernel, by decide +kernel⟩
abbrev s_Program_effect_names : Stmt := inClass (top 39) 4
abbrev N_Program_effect_names : List Str := ["self"]
theorem sc_Program_effect_names : FnScope N_Program_effect_names ["self"] (defScope s_Program_effect_names) := ⟨rfl, rfl, rfl, by decide +kernel, rfl, by decide +kernel, by decide +kernel⟩
abbrev s_Program_body : Stmt := inClass (top 39) 5
abbrev N_Program_body : List Str := ["self", "name", "own_name", "rows"]
theorem sc_Program_body : FnScope N_Program_body ["self", "name"] (defScope s_Program_body) := ⟨rfl, rfl, rfl, by decide +kernel, rfl, by decide +kernel, by decide +kernel⟩
abbrev s_Program_row_paths : Stmt := inClass (top 39) 6
abbrev N_Program_row_paths : List Str := ["self"]
theorem sc_Program_row_paths : FnScope N_Program_row_paths ["self"] (defScope s_Program_row_paths) := ⟨rfl, rfl, rfl, by decide +kernel, rfl, by decide +kernel, by decide +kernel⟩
abbrev s_Program_row_at : Stmt := inClass (top 39) 7
abbrev N_Program_row_at : List Str := ["self", "path", "row", "pairs"]
theorem sc_Program_row_at : FnScope N_Program_row_at ["self", "path"] (defScope s_Program_row_at) := ⟨rfl, rfl, rfl, by decide +kernel, rfl, by decide +kernel, by decide +kernel⟩
abbrev s_Program_with_row : Stmt := inClass (top 39) 8
abbrev N_Program_with_row : List Str := ["self", "path", "row"]
theorem sc_Program_with_row : FnScope N_Program_with_row ["self", "path", "row"] (defScope s_Program_with_row) := ⟨rfl, rfl, rfl, by decide +kernel, rfl, by decide +kernel, by decide +kernel⟩
abbrev s_names_of : Stmt := top 40
abbrev N_names_of : List Str := ["pairs", "name", "_"]
theorem sc_names_of : FnScope N_names_of ["pairs"] (defScope s_names_of) := ⟨rfl, rfl, rfl, by decide +kernel, rfl, by decide +kernel, by decide +kernel⟩
abbrev s_is_path_form : Stmt := top 41
abbrev N_is_path_form : List Str := ["value", "step"]
theorem sc_is_path_form : FnScope N_is_path_form ["value"] (defScope s_is_path_form) := ⟨rfl, rfl, rfl, by decide +kernel, rfl, by decide +kernel, by decide +kernel⟩
abbrev s_check_parts : Stmt := top 42
abbrev N_check_parts : List Str := ["words", "sources", "derived", "effects"]
theorem sc_check_parts : FnScope N_check_parts ["words", "sources", "derived", "effects"] (defScope s_check_parts) := ⟨rfl, rfl, rfl, by decide +kernel, rfl, by decide +kernel, by decide +kernel⟩
abbrev s_check_bodies : Stmt := top 43
abbrev N_check_bodies : List Str := ["words", "sources", "derived", "effects", "readable", "index", "name", "rows", "_"]
theorem sc_check_bodies : FnScope N_check_bodies ["words", "sources", "derived", "effects"] (defScope s_check_bodies) := ⟨rfl, rfl, rfl, by decide +kernel, rfl, by decide +kernel, by decide +kernel⟩
abbrev s_check_body : Stmt := top 44
abbrev N_check_body : List Str := ["rows", "scope", "index", "base", "wrong"]
theorem sc_check_body : FnScope N_check_body ["rows", "scope", "index"] (defScope s_check_body) := ⟨rfl, rfl, rfl, by decide +kernel, rfl, by decide +kernel, by decide +kernel⟩
abbrev s_is_change : Stmt := top 47
abbrev N_is_change : List Str := ["program", "value", "word", "path", "row"]
theorem sc_is_change : FnScope N_is_change ["program", "value"] (defScope s_is_change) := ⟨rfl, rfl, rfl, by decide +kernel, rfl, by decide +kernel, by decide +kernel⟩
abbrev s_check_changes : Stmt := top 48
abbrev N_check_changes : List Str := ["program", "changes", "most", "index", "change"]
theorem sc_check_changes : FnScope N_check_changes ["program", "changes", "most"] (defScope s_check_changes) := ⟨rfl, rfl, rfl, by decide +kernel, rfl, by decide +kernel, by decide +kernel⟩
abbrev s_with_changes : Stmt := top 49
abbrev N_with_changes : List Str := ["program", "changes"]
theorem sc_with_changes : FnScope N_with_changes ["program", "changes"] (defScope s_with_changes) := ⟨rfl, rfl, rfl, by decide +kernel, rfl, by decide +kernel, by decide +kernel⟩
abbrev s_changed : Stmt := top 50
abbrev N_changed : List Str := ["program", "changes", "derived", "effects"]
theorem sc_changed : FnScope N_changed ["program", "changes"] (defScope s_changed) := ⟨rfl, rfl, rfl, by decide +kernel, rfl, by decide +kernel, by decide +kernel⟩
abbrev s_changed_bodies : Stmt := top 51
abbrev N_changed_bodies : List Str := ["kind", "pairs", "changes", "bodies", "index", "name", "rows", "own", "word", "path"]
theorem sc_changed_bodies : FnScope N_changed_bodies ["kind", "pairs", "changes"] (defScope s_changed_bodies) := ⟨rfl, rfl, rfl, by decide +kernel, rfl, by decide +kernel, by decide +kernel⟩
abbrev s_changed_rows : Stmt := top 52
abbrev N_changed_rows : List Str := ["rows", "changes", "slots", "free", "early", "behind", "word", "steps", "_", "cell", "slot", "letter"]
theorem sc_changed_rows : FnScope N_changed_rows ["rows", "changes"] (defScope s_changed_rows) := ⟨rfl, rfl, rfl, by decide +kernel, rfl, by decide +kernel, by decide +kernel⟩
abbrev s_law_state : Stmt := top 54
abbrev N_law_state : List Str := ["_law_script"]
theorem sc_law_state : FnScope N_law_state ["_law_script"] (defScope s_law_state) := ⟨rfl, rfl, rfl, by decide +kernel, rfl, by decide +kernel, by decide +kernel⟩
abbrev s_law_draw : Stmt := top 55
abbrev N_law_draw : List Str := ["_law_state_here", "_law_many_here", "_law_cell", "_law_digit", "_law_one", "_law_two", "_law_three"]
theorem sc_law_draw : FnScope N_law_draw ["_law_state_here", "_law_many_here"] (defScope s_law_draw) := ⟨rfl, rfl, rfl, by decide +kernel, rfl, by decide +kernel, by decide +kernel⟩
abbrev s_law_names : Stmt := top 56
abbrev N_law_names : List Str := ["_law_state_here", "_law_many_here", "_law_place", "_law_first", "_law_same_size", "_law_base", "_law_letters", "_law_names_here", "_law_k", "_law_other", "_law_size", "_law_name", "_law_at"]
theorem sc_law_names : FnScope N_law_names ["_law_state_here", "_law_many_here"] (defScope s_law_names) := ⟨rfl, rfl, rfl, by decide +kernel, rfl, by decide +kernel, by decide +kernel⟩
abbrev s_law_many : Stmt := top 57
abbrev N_law_many : List Str := ["_law_rows_here", "_law_total", "_law_row_here"]
theorem sc_law_many : FnScope N_law_many ["_law_rows_here"] (defScope s_law_many) := ⟨rfl, rfl, rfl, by decide +kernel, rfl, by decide +kernel, by decide +kernel⟩
abbrev s_law_row : Stmt := top 58
abbrev N_law_row : List Str := ["_law_state_here", "_law_shape", "_law_kind", "_law_slot", "_law_cell"]
theorem sc_law_row : FnScope N_law_row ["_law_state_here", "_law_shape"] (defScope s_law_row) := ⟨rfl, rfl, rfl, by decide +kernel, rfl, by decide +kernel, by decide +kernel⟩
abbrev s_law_rows : Stmt := top 59
abbrev N_law_rows : List Str := ["_law_state_here", "_law_shape", "_law_depth", "_law_room", "_law_rows_here", "_law_left", "_law_turn", "_law_slot", "_law_cell", "_law_word", "_law_yes", "_law_no"]
theorem sc_law_rows : FnScope N_law_rows ["_law_state_here", "_law_shape", "_law_depth", "_law_room"] (defScope s_law_rows) := ⟨rfl, rfl, rfl, by decide +kernel, rfl, by decide +kernel, by decide +kernel⟩
abbrev s_law_parts : Stmt := top 60
abbrev N_law_parts : List Str := ["_law_state_here", "_law_sizes", "_law_peeks", "_law_writes", "_law_many_words", "_law_many_sources", "_law_many_derived", "_law_many_effects", "_law_words", "_law_names_here", "_law_slots", "_law_sources", "_law_shape", "_law_derived", "_law_k", "_law_name", "_law_rows_here", "_law_effects"]
theorem sc_law_parts : FnScope N_law_parts ["_law_state_here", "_law_sizes", "_law_peeks", "_law_writes"] (defScope s_law_parts) := ⟨rfl, rfl, rfl, by decide +kernel, rfl, by decide +kernel, by decide +kernel⟩
abbrev s_law_program : Stmt := top 61
abbrev N_law_program : List Str := ["_law_parts_here"]
theorem sc_law_program : FnScope N_law_program ["_law_parts_here"] (defScope s_law_program) := ⟨rfl, rfl, rfl, by decide +kernel, rfl, by decide +kernel, by decide +kernel⟩
abbrev s_law_chosen : Stmt := top 62
abbrev N_law_chosen : List Str := ["_law_state_here", "_law_rows_here", "_law_many_here", "_law_rest", "_law_told", "_law_turn"]
theorem sc_law_chosen : FnScope N_law_chosen ["_law_state_here", "_law_rows_here", "_law_many_here"] (defScope s_law_chosen) := ⟨rfl, rfl, rfl, by decide +kernel, rfl, by decide +kernel, by decide +kernel⟩
abbrev s_law_paths : Stmt := top 63
abbrev N_law_paths : List Str := ["_law_rows_here", "_law_path", "_law_found", "_law_k"]
theorem sc_law_paths : FnScope N_law_paths ["_law_rows_here", "_law_path"] (defScope s_law_paths) := ⟨rfl, rfl, rfl, by decide +kernel, rfl, by decide +kernel, by decide +kernel⟩
abbrev s_law_all_paths : Stmt := top 64
abbrev N_law_all_paths : List Str := ["_law_parts_here", "_law_found", "_law_k"]
theorem sc_law_all_paths : FnScope N_law_all_paths ["_law_parts_here"] (defScope s_law_all_paths) := ⟨rfl, rfl, rfl, by decide +kernel, rfl, by decide +kernel, by decide +kernel⟩
abbrev s_law_changes : Stmt := top 65
abbrev N_law_changes : List Str := ["_law_parts_here", "_law_found", "_law_pair"]
theorem sc_law_changes : FnScope N_law_changes ["_law_parts_here"] (defScope s_law_changes) := ⟨rfl, rfl, rfl, by decide +kernel, rfl, by decide +kernel, by decide +kernel⟩
abbrev s_law_spare : Stmt := top 66
abbrev N_law_spare : List Str := ["_law_rows_here", "_law_path", "_law_named", "_law_pair", "_law_row_here", "_law_spare_here", "_law_letter"]
theorem sc_law_spare : FnScope N_law_spare ["_law_rows_here", "_law_path"] (defScope s_law_spare) := ⟨rfl, rfl, rfl, by decide +kernel, rfl, by decide +kernel, by decide +kernel⟩
abbrev s_law_peeked : Stmt := top 67
abbrev N_law_peeked : List Str := ["_law_rows_here", "_law_path", "_law_chosen_here", "_law_told", "_law_k", "_law_row_here", "_law_yes", "_law_no"]
theorem sc_law_peeked : FnScope N_law_peeked ["_law_rows_here", "_law_path", "_law_chosen_here"] (defScope s_law_peeked) := ⟨rfl, rfl, rfl, by decide +kernel, rfl, by decide +kernel, by decide +kernel⟩
abbrev s_law_changed : Stmt := top 68
abbrev N_law_changed : List Str := ["_law_parts_here", "_law_kind", "_law_chosen_here", "_law_told", "_law_pairs", "_law_k", "_law_rows_here", "_law_early", "_law_change", "_law_pair"]
theorem sc_law_changed : FnScope N_law_changed ["_law_parts_here", "_law_kind", "_law_chosen_here"] (defScope s_law_changed) := ⟨rfl, rfl, rfl, by decide +kernel, rfl, by decide +kernel, by decide +kernel⟩
abbrev s_law_due : Stmt := top 69
abbrev N_law_due : List Str := ["_law_parts_here", "_law_chosen_here", "_law_derived", "_law_effects", "_law_k"]
theorem sc_law_due : FnScope N_law_due ["_law_parts_here", "_law_chosen_here"] (defScope s_law_due) := ⟨rfl, rfl, rfl, by decide +kernel, rfl, by decide +kernel, by decide +kernel⟩
abbrev s_law_with : Stmt := top 70
abbrev N_law_with : List Str := ["_law_program_here", "_law_changes_here", "_law_told", "_law_made", "e"]
theorem sc_law_with : FnScope N_law_with ["_law_program_here", "_law_changes_here"] (defScope s_law_with) := ⟨rfl, rfl, rfl, by decide +kernel, rfl, by decide +kernel, by decide +kernel⟩
abbrev s_law_no_change : Stmt := top 71
abbrev N_law_no_change : List Str := ["_law_state_here", "_law_parts_here", "_law_found", "_law_kind", "_law_pair", "_law_word"]
theorem sc_law_no_change : FnScope N_law_no_change ["_law_state_here", "_law_parts_here"] (defScope s_law_no_change) := ⟨rfl, rfl, rfl, by decide +kernel, rfl, by decide +kernel, by decide +kernel⟩
abbrev s_law_first_part : Stmt := top 72
abbrev N_law_first_part : List Str := ["_law_script", "_law_state_here", "_law_many_here", "_law_as_tuple", "_law_parts_here", "_law_program_here", "_law_chosen_here", "_law_due_here", "_law_handed", "_law_at", "_law_wrong", "_law_again", "_law_late", "_law_places", "_law_k"]
theorem sc_law_first_part : FnScope N_law_first_part ["_law_script"] (defScope s_law_first_part) := ⟨rfl, rfl, rfl, by decide +kernel, rfl, by decide +kernel, by decide +kernel⟩
abbrev s_law_second_part : Stmt := top 73
abbrev N_law_second_part : List Str := ["_law_script", "_law_state_here", "_law_parts_here", "_law_program_here", "_law_pair", "_law_reads", "_law_told"]
theorem sc_law_second_part : FnScope N_law_second_part ["_law_script"] (defScope s_law_second_part) := ⟨rfl, rfl, rfl, by decide +kernel, rfl, by decide +kernel, by decide +kernel⟩
abbrev s_law : Stmt := top 74
abbrev N_law : List Str := ["_law_script"]
theorem sc_law : FnScope N_law ["_law_script"] (defScope s_law) := ⟨rfl, rfl, rfl, by decide +kernel, rfl, by decide +kernel, by decide +kernel⟩
/-- what stands behind the top -/
structure Tops (w : World) (K : PySem.W.Frag) (mg : Str → Option Value) where
  z_isinstance : mg "isinstance" = none
  z_str : mg "str" = none
  z_tuple : mg "tuple" = none
  z_list : mg "list" = none
  z_len : mg "len" = none
  z_all : mg "all" = none
  z_set : mg "set" = none
  z_enumerate : mg "enumerate" = none
  z_range : mg "range" = none
  z_abs : mg "abs" = none
  z_int : mg "int" = none
  z_max : mg "max" = none
  z_dict : mg "dict" = none
  z_zip : mg "zip" = none
  z_bool : mg "bool" = none
  u_LONGEST_NAME : Tok
  c_LONGEST_NAME : mg "LONGEST_NAME" = some (.int 8 u_LONGEST_NAME)
  u_MOST_ROWS : Tok
  c_MOST_ROWS : mg "MOST_ROWS" = some (.int 16 u_MOST_ROWS)
  u_DEEPEST_IF : Tok
  c_DEEPEST_IF : mg "DEEPEST_IF" = some (.int 3 u_DEEPEST_IF)
  u_LEAST_WORDS : Tok
  c_LEAST_WORDS : mg "LEAST_WORDS" = some (.int 2 u_LEAST_WORDS)
  u_MOST_WORDS : Tok
  c_MOST_WORDS : mg "MOST_WORDS" = some (.int 4 u_MOST_WORDS)
  u_LEAST_SOURCES : Tok
  c_LEAST_SOURCES : mg "LEAST_SOURCES" = some (.int 1 u_LEAST_SOURCES)
  u_MOST_SOURCES : Tok
  c_MOST_SOURCES : mg "MOST_SOURCES" = some (.int 4 u_MOST_SOURCES)
  u_MOST_DERIVED : Tok
  c_MOST_DERIVED : mg "MOST_DERIVED" = some (.int 6 u_MOST_DERIVED)
  u_MOST_EFFECTS : Tok
  c_MOST_EFFECTS : mg "MOST_EFFECTS" = some (.int 4 u_MOST_EFFECTS)
  u_LETTERS : Tok
  c_LETTERS : mg "LETTERS" = some (.str "abcdefghijklmnopqrstuvwxyz" u_LETTERS)
  a_is_integer : Addr
  d_is_integer : FuncData
  F_is_integer : Fun K "is_integer" "is_integer" s_is_integer a_is_integer d_is_integer
  b_is_integer : Binds K d_is_integer ["value"] []
  m_is_integer : mg "is_integer" = some (.ref a_is_integer)
  a_is_name : Addr
  d_is_name : FuncData
  F_is_name : Fun K "is_name" "is_name" s_is_name a_is_name d_is_name
  b_is_name : Binds K d_is_name ["value"] []
  m_is_name : mg "is_name" = some (.ref a_is_name)
  a_are_names : Addr
  d_are_names : FuncData
  F_are_names : Fun K "are_names" "are_names" s_are_names a_are_names d_are_names
  b_are_names : Binds K d_are_names ["value", "least", "most"] []
  m_are_names : mg "are_names" = some (.ref a_are_names)
  a_are_named_pairs : Addr
  d_are_named_pairs : FuncData
  F_are_named_pairs : Fun K "are_named_pairs" "are_named_pairs" s_are_named_pairs a_are_named_pairs d_are_named_pairs
  b_are_named_pairs : Binds K d_are_named_pairs ["value", "most", "taken"] []
  m_are_named_pairs : mg "are_named_pairs" = some (.ref a_are_named_pairs)
  a_InvalidProgram_init : Addr
  d_InvalidProgram_init : FuncData
  F_InvalidProgram_init : Fun K "__init__" "InvalidProgram.__init__" s_InvalidProgram_init a_InvalidProgram_init d_InvalidProgram_init
  b_InvalidProgram_init : Binds K d_InvalidProgram_init ["self", "part", "path"] []
  a_InvalidPath_init : Addr
  d_InvalidPath_init : FuncData
  F_InvalidPath_init : Fun K "__init__" "InvalidPath.__init__" s_InvalidPath_init a_InvalidPath_init d_InvalidPath_init
  b_InvalidPath_init : Binds K d_InvalidPath_init ["self", "path"] []
  a_UnknownCell_init : Addr
  d_UnknownCell_init : FuncData
  F_UnknownCell_init : Fun K "__init__" "UnknownCell.__init__" s_UnknownCell_init a_UnknownCell_init d_UnknownCell_init
  b_UnknownCell_init : Binds K d_UnknownCell_init ["self", "name"] []
  a_InvalidChange_init : Addr
  d_InvalidChange_init : FuncData
  F_InvalidChange_init : Fun K "__init__" "InvalidChange.__init__" s_InvalidChange_init a_InvalidChange_init d_InvalidChange_init
  b_InvalidChange_init : Binds K d_InvalidChange_init ["self", "index"] []
  a_Scope_init : Addr
  d_Scope_init : FuncData
  F_Scope_init : Fun K "__init__" "Scope.__init__" s_Scope_init a_Scope_init d_Scope_init
  b_Scope_init : Binds K d_Scope_init ["self", "kind", "words", "sources", "readable"] []
  a_is_read_row : Addr
  d_is_read_row : FuncData
  F_is_read_row : Fun K "is_read_row" "is_read_row" s_is_read_row a_is_read_row d_is_read_row
  b_is_read_row : Binds K d_is_read_row ["row", "scope"] []
  m_is_read_row : mg "is_read_row" = some (.ref a_is_read_row)
  a_is_put_row : Addr
  d_is_put_row : FuncData
  F_is_put_row : Fun K "is_put_row" "is_put_row" s_is_put_row a_is_put_row d_is_put_row
  b_is_put_row : Binds K d_is_put_row ["row", "scope"] []
  m_is_put_row : mg "is_put_row" = some (.ref a_is_put_row)
  a_is_if_row : Addr
  d_is_if_row : FuncData
  F_is_if_row : Fun K "is_if_row" "is_if_row" s_is_if_row a_is_if_row d_is_if_row
  b_is_if_row : Binds K d_is_if_row ["row", "scope"] []
  m_is_if_row : mg "is_if_row" = some (.ref a_is_if_row)
  a_is_slot_row : Addr
  d_is_slot_row : FuncData
  F_is_slot_row : Fun K "is_slot_row" "is_slot_row" s_is_slot_row a_is_slot_row d_is_slot_row
  b_is_slot_row : Binds K d_is_slot_row ["row", "scope"] []
  m_is_slot_row : mg "is_slot_row" = some (.ref a_is_slot_row)
  a_is_write_row : Addr
  d_is_write_row : FuncData
  F_is_write_row : Fun K "is_write_row" "is_write_row" s_is_write_row a_is_write_row d_is_write_row
  b_is_write_row : Binds K d_is_write_row ["row", "scope"] []
  m_is_write_row : mg "is_write_row" = some (.ref a_is_write_row)
  a_check_of : Addr
  d_check_of : FuncData
  F_check_of : Fun K "check_of" "check_of" s_check_of a_check_of d_check_of
  b_check_of : Binds K d_check_of ["kind", "form"] []
  m_check_of : mg "check_of" = some (.ref a_check_of)
  a_is_valid_row : Addr
  d_is_valid_row : FuncData
  F_is_valid_row : Fun K "is_valid_row" "is_valid_row" s_is_valid_row a_is_valid_row d_is_valid_row
  b_is_valid_row : Binds K d_is_valid_row ["row", "scope", "depth"] []
  m_is_valid_row : mg "is_valid_row" = some (.ref a_is_valid_row)
  a_first_wrong_path : Addr
  d_first_wrong_path : FuncData
  F_first_wrong_path : Fun K "first_wrong_path" "first_wrong_path" s_first_wrong_path a_first_wrong_path d_first_wrong_path
  b_first_wrong_path : Binds K d_first_wrong_path ["rows", "scope", "base", "depth"] []
  m_first_wrong_path : mg "first_wrong_path" = some (.ref a_first_wrong_path)
  a_paths_of_rows : Addr
  d_paths_of_rows : FuncData
  F_paths_of_rows : Fun K "paths_of_rows" "paths_of_rows" s_paths_of_rows a_paths_of_rows d_paths_of_rows
  b_paths_of_rows : Binds K d_paths_of_rows ["rows", "base"] []
  m_paths_of_rows : mg "paths_of_rows" = some (.ref a_paths_of_rows)
  a_row_behind : Addr
  d_row_behind : FuncData
  F_row_behind : Fun K "row_behind" "row_behind" s_row_behind a_row_behind d_row_behind
  b_row_behind : Binds K d_row_behind ["rows", "steps"] []
  m_row_behind : mg "row_behind" = some (.ref a_row_behind)
  a_rows_with : Addr
  d_rows_with : FuncData
  F_rows_with : Fun K "rows_with" "rows_with" s_rows_with a_rows_with d_rows_with
  b_rows_with : Binds K d_rows_with ["rows", "steps", "row"] []
  m_rows_with : mg "rows_with" = some (.ref a_rows_with)
  a_slots_in : Addr
  d_slots_in : FuncData
  F_slots_in : Fun K "slots_in" "slots_in" s_slots_in a_slots_in d_slots_in
  b_slots_in : Binds K d_slots_in ["rows"] []
  m_slots_in : mg "slots_in" = some (.ref a_slots_in)
  a_Program_init : Addr
  d_Program_init : FuncData
  F_Program_init : Fun K "__init__" "Program.__init__" s_Program_init a_Program_init d_Program_init
  b_Program_init : Binds K d_Program_init ["self", "words", "sources", "derived", "effects"] []
  a_Program_eq : Addr
  d_Program_eq : FuncData
  F_Program_eq : Fun K "__eq__" "Program.__eq__" s_Program_eq a_Program_eq d_Program_eq
  b_Program_eq : Binds K d_Program_eq ["self", "other"] []
  a_Program_cells : Addr
  d_Program_cells : FuncData
  F_Program_cells : Fun K "cells" "Program.cells" s_Program_cells a_Program_cells d_Program_cells
  b_Program_cells : Binds K d_Program_cells ["self"] []
  a_Program_derived_names : Addr
  d_Program_derived_names : FuncData
  F_Program_derived_names : Fun K "derived_names" "Program.derived_names" s_Program_derived_names a_Program_derived_names d_Program_derived_names
  b_Program_derived_names : Binds K d_Program_derived_names ["self"] []
  a_Program_effect_names : Addr
  d_Program_effect_names : FuncData
  F_Program_effect_names : Fun K "effect_names" "Program.effect_names" s_Program_effect_names a_Program_effect_names d_Program_effect_names
  b_Program_effect_names : Binds K d_Program_effect_names ["self"] []
  a_Program_body : Addr
  d_Program_body : FuncData
  F_Program_body : Fun K "body" "Program.body" s_Program_body a_Program_body d_Program_body
  b_Program_body : Binds K d_Program_body ["self", "name"] []
  a_Program_row_paths : Addr
  d_Program_row_paths : FuncData
  F_Program_row_paths : Fun K "row_paths" "Program.row_paths" s_Program_row_paths a_Program_row_paths d_Program_row_paths
  b_Program_row_paths : Binds K d_Program_row_paths ["self"] []
  a_Program_row_at : Addr
  d_Program_row_at : FuncData
  F_Program_row_at : Fun K "row_at" "Program.row_at" s_Program_row_at a_Program_row_at d_Program_row_at
  b_Program_row_at : Binds K d_Program_row_at ["self", "path"] []
  a_Program_with_row : Addr
  d_Program_with_row : FuncData
  F_Program_with_row : Fun K "with_row" "Program.with_row" s_Program_with_row a_Program_with_row d_Program_with_row
  b_Program_with_row : Binds K d_Program_with_row ["self", "path", "row"] []
  a_names_of : Addr
  d_names_of : FuncData
  F_names_of : Fun K "names_of" "names_of" s_names_of a_names_of d_names_of
  b_names_of : Binds K d_names_of ["pairs"] []
  m_names_of : mg "names_of" = some (.ref a_names_of)
  a_is_path_form : Addr
  d_is_path_form : FuncData
  F_is_path_form : Fun K "is_path_form" "is_path_form" s_is_path_form a_is_path_form d_is_path_form
  b_is_path_form : Binds K d_is_path_form ["value"] []
  m_is_path_form : mg "is_path_form" = some (.ref a_is_path_form)
  a_check_parts : Addr
  d_check_parts : FuncData
  F_check_parts : Fun K "check_parts" "check_parts" s_check_parts a_check_parts d_check_parts
  b_check_parts : Binds K d_check_parts ["words", "sources", "derived", "effects"] []
  m_check_parts : mg "check_parts" = some (.ref a_check_parts)
  a_check_bodies : Addr
  d_check_bodies : FuncData
  F_check_bodies : Fun K "check_bodies" "check_bodies" s_check_bodies a_check_bodies d_check_bodies
  b_check_bodies : Binds K d_check_bodies ["words", "sources", "derived", "effects"] []
  m_check_bodies : mg "check_bodies" = some (.ref a_check_bodies)
  a_check_body : Addr
  d_check_body : FuncData
  F_check_body : Fun K "check_body" "check_body" s_check_body a_check_body d_check_body
  b_check_body : Binds K d_check_body ["rows", "scope", "index"] []
  m_check_body : mg "check_body" = some (.ref a_check_body)
  a_is_change : Addr
  d_is_change : FuncData
  F_is_change : Fun K "is_change" "is_change" s_is_change a_is_change d_is_change
  b_is_change : Binds K d_is_change ["program", "value"] []
  m_is_change : mg "is_change" = some (.ref a_is_change)
  a_check_changes : Addr
  d_check_changes : FuncData
  F_check_changes : Fun K "check_changes" "check_changes" s_check_changes a_check_changes d_check_changes
  b_check_changes : Binds K d_check_changes ["program", "changes", "most"] []
  m_check_changes : mg "check_changes" = some (.ref a_check_changes)
  a_with_changes : Addr
  d_with_changes : FuncData
  F_with_changes : Fun K "with_changes" "with_changes" s_with_changes a_with_changes d_with_changes
  b_with_changes : Binds K d_with_changes ["program", "changes"] []
  m_with_changes : mg "with_changes" = some (.ref a_with_changes)
  a_changed : Addr
  d_changed : FuncData
  F_changed : Fun K "changed" "changed" s_changed a_changed d_changed
  b_changed : Binds K d_changed ["program", "changes"] []
  m_changed : mg "changed" = some (.ref a_changed)
  a_changed_bodies : Addr
  d_changed_bodies : FuncData
  F_changed_bodies : Fun K "changed_bodies" "changed_bodies" s_changed_bodies a_changed_bodies d_changed_bodies
  b_changed_bodies : Binds K d_changed_bodies ["kind", "pairs", "changes"] []
  m_changed_bodies : mg "changed_bodies" = some (.ref a_changed_bodies)
  a_changed_rows : Addr
  d_changed_rows : FuncData
  F_changed_rows : Fun K "changed_rows" "changed_rows" s_changed_rows a_changed_rows d_changed_rows
  b_changed_rows : Binds K d_changed_rows ["rows", "changes"] []
  m_changed_rows : mg "changed_rows" = some (.ref a_changed_rows)
  a__law_state : Addr
  d__law_state : FuncData
  F__law_state : Fun K "_law_state" "_law_state" s_law_state a__law_state d__law_state
  b__law_state : Binds K d__law_state ["_law_script"] []
  m__law_state : mg "_law_state" = some (.ref a__law_state)
  a__law_draw : Addr
  d__law_draw : FuncData
  F__law_draw : Fun K "_law_draw" "_law_draw" s_law_draw a__law_draw d__law_draw
  b__law_draw : Binds K d__law_draw ["_law_state_here", "_law_many_here"] []
  m__law_draw : mg "_law_draw" = some (.ref a__law_draw)
  a__law_names : Addr
  d__law_names : FuncData
  F__law_names : Fun K "_law_names" "_law_names" s_law_names a__law_names d__law_names
  b__law_names : Binds K d__law_names ["_law_state_here", "_law_many_here"] []
  m__law_names : mg "_law_names" = some (.ref a__law_names)
  a__law_many : Addr
  d__law_many : FuncData
  F__law_many : Fun K "_law_many" "_law_many" s_law_many a__law_many d__law_many
  b__law_many : Binds K d__law_many ["_law_rows_here"] []
  m__law_many : mg "_law_many" = some (.ref a__law_many)
  a__law_row : Addr
  d__law_row : FuncData
  F__law_row : Fun K "_law_row" "_law_row" s_law_row a__law_row d__law_row
  b__law_row : Binds K d__law_row ["_law_state_here", "_law_shape"] []
  m__law_row : mg "_law_row" = some (.ref a__law_row)
  a__law_rows : Addr
  d__law_rows : FuncData
  F__law_rows : Fun K "_law_rows" "_law_rows" s_law_rows a__law_rows d__law_rows
  b__law_rows : Binds K d__law_rows ["_law_state_here", "_law_shape", "_law_depth", "_law_room"] []
  m__law_rows : mg "_law_rows" = some (.ref a__law_rows)
  a__law_parts : Addr
  d__law_parts : FuncData
  F__law_parts : Fun K "_law_parts" "_law_parts" s_law_parts a__law_parts d__law_parts
  b__law_parts : Binds K d__law_parts ["_law_state_here", "_law_sizes", "_law_peeks", "_law_writes"] []
  m__law_parts : mg "_law_parts" = some (.ref a__law_parts)
  a__law_program : Addr
  d__law_program : FuncData
  F__law_program : Fun K "_law_program" "_law_program" s_law_program a__law_program d__law_program
  b__law_program : Binds K d__law_program ["_law_parts_here"] []
  m__law_program : mg "_law_program" = some (.ref a__law_program)
  a__law_chosen : Addr
  d__law_chosen : FuncData
  F__law_chosen : Fun K "_law_chosen" "_law_chosen" s_law_chosen a__law_chosen d__law_chosen
  b__law_chosen : Binds K d__law_chosen ["_law_state_here", "_law_rows_here", "_law_many_here"] []
  m__law_chosen : mg "_law_chosen" = some (.ref a__law_chosen)
  a__law_paths : Addr
  d__law_paths : FuncData
  F__law_paths : Fun K "_law_paths" "_law_paths" s_law_paths a__law_paths d__law_paths
  b__law_paths : Binds K d__law_paths ["_law_rows_here", "_law_path"] []
  m__law_paths : mg "_law_paths" = some (.ref a__law_paths)
  a__law_all_paths : Addr
  d__law_all_paths : FuncData
  F__law_all_paths : Fun K "_law_all_paths" "_law_all_paths" s_law_all_paths a__law_all_paths d__law_all_paths
  b__law_all_paths : Binds K d__law_all_paths ["_law_parts_here"] []
  m__law_all_paths : mg "_law_all_paths" = some (.ref a__law_all_paths)
  a__law_changes : Addr
  d__law_changes : FuncData
  F__law_changes : Fun K "_law_changes" "_law_changes" s_law_changes a__law_changes d__law_changes
  b__law_changes : Binds K d__law_changes ["_law_parts_here"] []
  m__law_changes : mg "_law_changes" = some (.ref a__law_changes)
  a__law_spare : Addr
  d__law_spare : FuncData
  F__law_spare : Fun K "_law_spare" "_law_spare" s_law_spare a__law_spare d__law_spare
  b__law_spare : Binds K d__law_spare ["_law_rows_here", "_law_path"] []
  m__law_spare : mg "_law_spare" = some (.ref a__law_spare)
  a__law_peeked : Addr
  d__law_peeked : FuncData
  F__law_peeked : Fun K "_law_peeked" "_law_peeked" s_law_peeked a__law_peeked d__law_peeked
  b__law_peeked : Binds K d__law_peeked ["_law_rows_here", "_law_path", "_law_chosen_here"] []
  m__law_peeked : mg "_law_peeked" = some (.ref a__law_peeked)
  a__law_changed : Addr
  d__law_changed : FuncData
  F__law_changed : Fun K "_law_changed" "_law_changed" s_law_changed a__law_changed d__law_changed
  b__law_changed : Binds K d__law_changed ["_law_parts_here", "_law_kind", "_law_chosen_here"] []
  m__law_changed : mg "_law_changed" = some (.ref a__law_changed)
  a__law_due : Addr
  d__law_due : FuncData
  F__law_due : Fun K "_law_due" "_law_due" s_law_due a__law_due d__law_due
  b__law_due : Binds K d__law_due ["_law_parts_here", "_law_chosen_here"] []
  m__law_due : mg "_law_due" = some (.ref a__law_due)
  a__law_with : Addr
  d__law_with : FuncData
  F__law_with : Fun K "_law_with" "_law_with" s_law_with a__law_with d__law_with
  b__law_with : Binds K d__law_with ["_law_program_here", "_law_changes_here"] []
  m__law_with : mg "_law_with" = some (.ref a__law_with)
  a__law_no_change : Addr
  d__law_no_change : FuncData
  F__law_no_change : Fun K "_law_no_change" "_law_no_change" s_law_no_change a__law_no_change d__law_no_change
  b__law_no_change : Binds K d__law_no_change ["_law_state_here", "_law_parts_here"] []
  m__law_no_change : mg "_law_no_change" = some (.ref a__law_no_change)
  a__law_first_part : Addr
  d__law_first_part : FuncData
  F__law_first_part : Fun K "_law_first_part" "_law_first_part" s_law_first_part a__law_first_part d__law_first_part
  b__law_first_part : Binds K d__law_first_part ["_law_script"] []
  m__law_first_part : mg "_law_first_part" = some (.ref a__law_first_part)
  a__law_second_part : Addr
  d__law_second_part : FuncData
  F__law_second_part : Fun K "_law_second_part" "_law_second_part" s_law_second_part a__law_second_part d__law_second_part
  b__law_second_part : Binds K d__law_second_part ["_law_script"] []
  m__law_second_part : mg "_law_second_part" = some (.ref a__law_second_part)
  a_law : Addr
  d_law : FuncData
  F_law : Fun K "law" "law" s_law a_law d_law
  b_law : Binds K d_law ["_law_script"] []
  m_law : mg "law" = some (.ref a_law)
  c_ToldError : Addr
  m_ToldError : mg "ToldError" = some (.ref c_ToldError)
  c_InvalidProgram : Addr
  m_InvalidProgram : mg "InvalidProgram" = some (.ref c_InvalidProgram)
  x_InvalidProgram : OexC K c_InvalidProgram
  xi_InvalidProgram : PySem.W.findIn K (.ref c_InvalidProgram) "__init__" = some (some (.ref a_InvalidProgram_init))
  xt_InvalidProgram : PySem.W.typeIn K (.ref a_InvalidProgram_init) = some (.type "function")
  n_InvalidProgram_part : PySem.W.findIn K (.ref c_InvalidProgram) "part" = some none
  n_InvalidProgram_path : PySem.W.findIn K (.ref c_InvalidProgram) "path" = some none
  xa_InvalidProgram : PySem.W.findIn K (.ref c_InvalidProgram) "__getattribute__" = some (some (.builtin "BaseException.__getattribute__"))
  xg_InvalidProgram : PySem.W.findIn K (.ref c_InvalidProgram) "__getattr__" = some none
  xh_InvalidProgram : PySem.W.hasDictIn K c_InvalidProgram = true
  xe_InvalidProgram : PySem.W.exmOne K (.ref c_InvalidProgram) (.ref c_InvalidProgram) = some true
  c_InvalidPath : Addr
  m_InvalidPath : mg "InvalidPath" = some (.ref c_InvalidPath)
  x_InvalidPath : OexC K c_InvalidPath
  xi_InvalidPath : PySem.W.findIn K (.ref c_InvalidPath) "__init__" = some (some (.ref a_InvalidPath_init))
  xt_InvalidPath : PySem.W.typeIn K (.ref a_InvalidPath_init) = some (.type "function")
  n_InvalidPath_path : PySem.W.findIn K (.ref c_InvalidPath) "path" = some none
  xa_InvalidPath : PySem.W.findIn K (.ref c_InvalidPath) "__getattribute__" = some (some (.builtin "BaseException.__getattribute__"))
  xg_InvalidPath : PySem.W.findIn K (.ref c_InvalidPath) "__getattr__" = some none
  xh_InvalidPath : PySem.W.hasDictIn K c_InvalidPath = true
  xe_InvalidPath : PySem.W.exmOne K (.ref c_InvalidPath) (.ref c_InvalidPath) = some true
  xn_InvalidPath_InvalidProgram : PySem.W.exmOne K (.ref c_InvalidPath) (.ref c_InvalidProgram) = some false
  c_UnknownCell : Addr
  m_UnknownCell : mg "UnknownCell" = some (.ref c_UnknownCell)
  c_InvalidChange : Addr
  m_InvalidChange : mg "InvalidChange" = some (.ref c_InvalidChange)
  x_InvalidChange : OexC K c_InvalidChange
  xi_InvalidChange : PySem.W.findIn K (.ref c_InvalidChange) "__init__" = some (some (.ref a_InvalidChange_init))
  xt_InvalidChange : PySem.W.typeIn K (.ref a_InvalidChange_init) = some (.type "function")
  n_InvalidChange_index : PySem.W.findIn K (.ref c_InvalidChange) "index" = some none
  xa_InvalidChange : PySem.W.findIn K (.ref c_InvalidChange) "__getattribute__" = some (some (.builtin "BaseException.__getattribute__"))
  xg_InvalidChange : PySem.W.findIn K (.ref c_InvalidChange) "__getattr__" = some none
  xh_InvalidChange : PySem.W.hasDictIn K c_InvalidChange = true
  xe_InvalidChange : PySem.W.exmOne K (.ref c_InvalidChange) (.ref c_InvalidChange) = some true
  xn_InvalidChange_InvalidProgram : PySem.W.exmOne K (.ref c_InvalidChange) (.ref c_InvalidProgram) = some false
  xn_InvalidChange_InvalidPath : PySem.W.exmOne K (.ref c_InvalidChange) (.ref c_InvalidPath) = some false
  c_Scope : Addr
  m_Scope : mg "Scope" = some (.ref c_Scope)
  l_Scope : Cls K c_Scope
  k_Scope : Mk K c_Scope a_Scope_init
  n_Scope_kind : NoAttr K c_Scope "kind"
  n_Scope_words : NoAttr K c_Scope "words"
  n_Scope_sources : NoAttr K c_Scope "sources"
  n_Scope_readable : NoAttr K c_Scope "readable"
  c_Program : Addr
  m_Program : mg "Program" = some (.ref c_Program)
  l_Program : Cls K c_Program
  k_Program : Mk K c_Program a_Program_init
  n_Program_words : NoAttr K c_Program "words"
  n_Program_sources : NoAttr K c_Program "sources"
  n_Program_derived : NoAttr K c_Program "derived"
  n_Program_effects : NoAttr K c_Program "effects"
  n_Program__derived_names : NoAttr K c_Program "_derived_names"
  n_Program__effect_names : NoAttr K c_Program "_effect_names"
  t_Program_cells : Meth K c_Program "cells" a_Program_cells
  t_Program_derived_names : Meth K c_Program "derived_names" a_Program_derived_names
  t_Program_effect_names : Meth K c_Program "effect_names" a_Program_effect_names
  t_Program_body : Meth K c_Program "body" a_Program_body
  t_Program_row_paths : Meth K c_Program "row_paths" a_Program_row_paths
  t_Program_row_at : Meth K c_Program "row_at" a_Program_row_at
  t_Program_with_row : Meth K c_Program "with_row" a_Program_with_row
  i_Program : C8.InsC K c_Program
  a_SLOT_PLACES : Addr
  c_SLOT_PLACES : mg "SLOT_PLACES" = some (.ref a_SLOT_PLACES)
  w_SLOT_PLACES : KTab K w a_SLOT_PLACES
  w_SLOT_PLACES_read : KDct K w a_SLOT_PLACES "read" (.int 2)
  w_SLOT_PLACES_peek : KDct K w a_SLOT_PLACES "peek" (.int 2)
  w_SLOT_PLACES_put : KDct K w a_SLOT_PLACES "put" (.int 1)
  w_SLOT_PLACES_if : KDct K w a_SLOT_PLACES "if" (.int 1)
  w_SLOT_PLACES_give : KDct K w a_SLOT_PLACES "give" (.int 1)
  w_SLOT_PLACES_write : KDct K w a_SLOT_PLACES "write" (.int 2)
  w_SLOT_PLACES_say : KDct K w a_SLOT_PLACES "say" (.int 1)
  a_DERIVED_FORMS : Addr
  c_DERIVED_FORMS : mg "DERIVED_FORMS" = some (.ref a_DERIVED_FORMS)
  w_DERIVED_FORMS : KTab K w a_DERIVED_FORMS
  w_DERIVED_FORMS_read : KDct K w a_DERIVED_FORMS "read" (.ref a_is_read_row)
  w_DERIVED_FORMS_put : KDct K w a_DERIVED_FORMS "put" (.ref a_is_put_row)
  w_DERIVED_FORMS_if : KDct K w a_DERIVED_FORMS "if" (.ref a_is_if_row)
  w_DERIVED_FORMS_give : KDct K w a_DERIVED_FORMS "give" (.ref a_is_slot_row)
  a_EFFECT_FORMS : Addr
  c_EFFECT_FORMS : mg "EFFECT_FORMS" = some (.ref a_EFFECT_FORMS)
  w_EFFECT_FORMS : KTab K w a_EFFECT_FORMS
  w_EFFECT_FORMS_read : KDct K w a_EFFECT_FORMS "read" (.ref a_is_read_row)
  w_EFFECT_FORMS_peek : KDct K w a_EFFECT_FORMS "peek" (.ref a_is_read_row)
  w_EFFECT_FORMS_put : KDct K w a_EFFECT_FORMS "put" (.ref a_is_put_row)
  w_EFFECT_FORMS_if : KDct K w a_EFFECT_FORMS "if" (.ref a_is_if_row)
  w_EFFECT_FORMS_write : KDct K w a_EFFECT_FORMS "write" (.ref a_is_write_row)
  w_EFFECT_FORMS_say : KDct K w a_EFFECT_FORMS "say" (.ref a_is_slot_row)
  xq_Program : PySem.W.findIn K (.ref c_Program) "__eq__" = some (some (.ref a_Program_eq))
  xf_Program : PySem.W.isFn K (.ref a_Program_eq) = true
  xz_Program : PySem.W.findIn K (.ref c_Program) "__ne__" = some (some (.builtin "object.__ne__"))
  xo_Program : PySem.W.subIn K (.ref c_Program) (.type "object") = some true
  xn_InvalidProgram_InvalidChange : PySem.W.exmOne K (.ref c_InvalidProgram) (.ref c_InvalidChange) = some false
end K77
namespace K77
open PySem PySem.Spec PyProof.Rows L2 Td
/-- the state of the draws at st -/
def stL (sc : Addr) (i d c s : Int) : List V := [.ref sc, .int i, .int d, .int c, .int s]
def StOk (H : Hp) (st sc : Addr) : Prop := ∃ (cs : List Int) (i d c s : Int),
  H st = some (.lst (stL sc i d c s)) ∧ H sc = some (.lst (cs.map V.int)) ∧ 0 ≤ d ∧ 0 ≤ i ∧ i ≤ cs.length ∧ cs.length ≤ 63 ∧ sc ≠ st
def spDraw : Sp := fun vs H Q _ => ∃ (st sc : Addr) (m : Int), vs = [.ref st, .int m] ∧ 0 < m ∧ m < 2 ^ 64 ∧ StOk H st sc ∧
  ∀ (r : Int) (H' : Hp), 0 ≤ r → r < m → Keep st H H' → StOk H' st sc → (∃ L, H' = upd H st (.lst L)) → Q (.int r) H'
def spState (K : PySem.W.Frag) : Sp := fun vs H Q _ => ∃ (a : Addr) (ns : List Int), vs = [.ref a] ∧ SqL K H a (ns.map V.int) ∧ ns.length ≤ 63 ∧
  ∀ (st sc : Addr) (H' : Hp), Same H H' → H st = none → H sc = none → StOk H' st sc → Q (.ref st) H'
section
variable {P : Program} {w : World} {K : PySem.W.Frag} {mg : Str → Option Value} {base : Heap}
theorem ok_draw (T : Tops w K mg) : FnOk P w K mg base CX0 1 T.a__law_draw T.d__law_draw ["_law_state_here", "_law_many_here"] spDraw := by
  refine T.F__law_draw.ok sc_law_draw (fun vs H Q E h => ?_) (fun cdv A outer s H vs Q E hr h => ?_)
  · obtain ⟨st, sc, m, rfl, _⟩ := h
    rfl
  obtain ⟨st, sc, m, rfl, hm0, hm1, ⟨cs, i, d, c, z, h1, h2, hd0, hi0, hi, h63, hne⟩, q⟩ := h
  refine ⟨_, (pss_cons (ps_augS (pv 0) pe_int get_list pe_int ip_add set_list)
    (C8.pss_cut (ps_if (PW.pt (pw_and (pt_cmpR op_eq (pe_ix ix_list (pv 0) pe_int (fun _ _ => rfl)) pe_int (nomark _)) (pw_and1 (pt_cmpR op_lt (pe_ix ix_list (pv 0) pe_int (fun _ _ => rfl)) (pe_callB call_len rfl T.z_len PySem.boot_len (pa_cons (pe_ix ix_list (pv 0) pe_int (fun _ _ => rfl)) pa_nil)) (nomark _))))) (pss_cons (ps_set (i := 2) sc_law_draw.nd rfl (Or.inl rfl) (pe_ix ix_list (pe_ix ix_list (pv 0) pe_int (fun _ _ => rfl)) (pe_ix ix_list (pv 0) pe_int (fun _ _ => rfl)) (fun _ _ => rfl)))
    (pss_cons (ps_augS (pv 0) pe_int get_list pe_int ip_add set_list)
    (pss_one (ps_if (pt_cmpR op_ge (pe_callB call_abs rfl T.z_abs (by decide +kernel) (pa_cons (pv 2) pa_nil)) (pe_op op_pow pe_int pe_int) (nomark _)) (pss_one (ps_asg (pe_callB call_abs rfl T.z_abs (by decide +kernel) (pa_cons (pv 2) pa_nil)) (pg_sub (pv 0) pe_int set_list))) (pss_one (ps_asg (pe_op op_modN (pe_callTy call_int1 rfl T.z_int (by decide +kernel) (pa_cons (pe_op op_add (pe_op op_add (pe_op op_mul (pe_ix ix_list (pv 0) pe_int (fun _ _ => rfl)) pe_int) (pv 2)) pe_int) pa_nil)) pe_int) (pg_sub (pv 0) pe_int set_list))))))) pss_nil)
    (pss_cons (ps_if (pt_cmpR op_gt (pe_ix ix_list (pv 0) pe_int (fun _ _ => rfl)) pe_int (nomark _)) (pss_cons (ps_set (i := 3) sc_law_draw.nd rfl (Or.inl rfl) (pe_op op_modN (pe_callTy call_int1 rfl T.z_int (by decide +kernel) (pa_cons (pe_ix ix_list (pv 0) pe_int (fun _ _ => rfl)) pa_nil)) (pv 1)))
    (pss_cons (ps_asg (pe_op op_fdivW (pe_ix ix_list (pv 0) pe_int (fun _ _ => rfl)) (pv 1)) (pg_sub (pv 0) pe_int set_list))
    (pss_one (ps_ret (pv 3))))) pss_nil)
    (pss_cons (ps_set (i := 4) sc_law_draw.nd rfl (Or.inl rfl) (pe_op op_modN (pe_callTy call_int1 rfl T.z_int (by decide +kernel) (pa_cons (pe_op op_mul (pe_op op_add (pe_op op_add (pe_ix ix_list (pv 0) pe_int (fun _ _ => rfl)) (pe_op op_mul pe_int (pe_ix ix_list (pv 0) pe_int (fun _ _ => rfl)))) pe_int) pe_int) pa_nil)) pe_int))
    (pss_cons (ps_set (i := 5) sc_law_draw.nd rfl (Or.inl rfl) (pe_op op_modN (pe_callTy call_int1 rfl T.z_int (by decide +kernel) (pa_cons (pe_op op_mul (pv 4) (pe_op op_add (pe_op op_fdivW (pv 4) pe_int) pe_int)) pa_nil)) pe_int))
    (pss_cons (ps_set (i := 6) sc_law_draw.nd rfl (Or.inl rfl) (pe_op op_modN (pe_callTy call_int1 rfl T.z_int (by decide +kernel) (pa_cons (pe_op op_mul (pv 5) (pe_op op_add (pe_op op_fdivW (pv 5) pe_int) pe_int)) pa_nil)) pe_int))
    (pss_one (ps_ret (pe_op op_modN (pe_callTy call_int1 rfl T.z_int (by decide +kernel) (pa_cons (pe_op op_fdivW (pv 6) pe_int) pa_nil)) (pv 1)))))))))), ?_⟩
  -- state[3] += 1
  refine ⟨_, rfl, st, _, 3, _, rfl, rfl, SqL.of h1, rfl, _, _, rfl, rfl, st, _, _, 3, rfl, rfl, h1, rfl, ?_⟩
  have k1 : Keep st H (upd H st (.lst (stL sc i d (c + 1) z))) := Keep.upd
  have e1 : upd H st (.lst (stL sc i d (c + 1) z)) st = some (.lst (stL sc i d (c + 1) z)) := upd_same
  have e2 : upd H st (.lst (stL sc i d (c + 1) z)) sc = some (.lst (cs.map V.int)) := k1 _ _ hne h2
  show C8.tCut _ _ _ _ (upd H st (.lst (stL sc i d (c + 1) z)))
  refine ⟨fun σ' H' => ∃ (v : Option V) (i' d' z' : Int), σ' = [some (.ref st), some (.int m), v, none, none, none, none] ∧
    H' = upd H st (.lst (stL sc i' d' (c + 1) z')) ∧ 0 ≤ d' ∧ 0 ≤ i' ∧ i' ≤ cs.length, ?_, ?_⟩
  · -- if state[2] == 0 and state[1] < len(state[0])
    refine ⟨_, rfl, st, _, 2, _, rfl, rfl, SqL.of e1, rfl, rfl, _, rfl, ?_⟩
    refine ite2 (fun c1 => ?_) (fun _ => iteF ⟨none, i, d, z, rfl, rfl, hd0, hi0, hi⟩)
    refine ⟨_, rfl, st, _, 1, _, rfl, rfl, SqL.of e1, rfl, _, rfl, st, _, 0, _, rfl, rfl, SqL.of e1, rfl, _, (cs.map V.int).length, rfl, .inl ⟨_, SqL.of e2, rfl⟩, _, _, rfl, rfl, _, rfl, ?_⟩
    refine ite2 (fun c2 => ?_) (fun _ => ⟨none, i, d, z, rfl, rfl, hd0, hi0, hi⟩)
    have hlt : i.toNat < cs.length := by
      have := of_decide_eq_true c2
      rw [List.length_map] at this
      omega
    have hat : atI (cs.map V.int) i = some (V.int cs[i.toNat]) := by
      have : atI (cs.map V.int) ((i.toNat : Nat) : Int) = some (V.int cs[i.toNat]) := atI_nat (by rw [List.getElem?_map, List.getElem?_eq_getElem hlt]; rfl)
      rwa [show ((i.toNat : Nat) : Int) = i by omega] at this
    -- cell = state[0][state[1]]; state[1] += 1
    refine ⟨_, rfl, st, _, 0, _, rfl, rfl, SqL.of e1, rfl, _, rfl, st, _, 1, _, rfl, rfl, SqL.of e1, rfl, sc, _, i, V.int cs[i.toNat], rfl, rfl, SqL.of e2, hat, ?_⟩
    refine ⟨_, rfl, st, _, 1, _, rfl, rfl, SqL.of e1, rfl, _, _, rfl, rfl, st, _, _, 1, rfl, rfl, e1, rfl, ?_⟩
    rw [upd_upd]
    have e3 : upd H st (.lst (stL sc (i + 1) d (c + 1) z)) st = some (.lst (stL sc (i + 1) d (c + 1) z)) := upd_same
    rw [show upd H st (.lst ((stL sc i d (c + 1) z).set 1 (V.int ((fun i j => i + j) i 1)))) = upd H st (.lst (stL sc (i + 1) d (c + 1) z)) from rfl]
    -- if abs(cell) >= 10 ** 18
    refine ⟨_, rfl, _, rfl, _, _, rfl, rfl, ⟨by decide, by decide, by decide⟩, _, _, rfl, rfl, _, rfl, ?_⟩
    refine ite2 (fun _ => ?_) (fun _ => ?_)
    · refine ⟨_, rfl, _, rfl, _, rfl, st, _, 2, 2, rfl, rfl, e3, rfl, ?_⟩
      rw [upd_upd]
      exact ⟨_, i + 1, _, z, rfl, rfl, by split <;> omega, by omega, by omega⟩
    · refine ⟨_, rfl, st, _, 4, _, rfl, rfl, SqL.of e3, rfl, _, _, rfl, rfl, .inr ⟨by decide, by decide⟩, _, rfl, _, _, rfl, rfl, _, _, rfl, rfl, .inl ⟨_, rfl, ?_⟩⟩
      refine ⟨_, _, rfl, rfl, (by show (2147483647 : Int) ≠ 0; decide), _, rfl, st, _, 4, 4, rfl, rfl, e3, rfl, ?_⟩
      rw [upd_upd]
      exact ⟨_, i + 1, _, _, rfl, rfl, hd0, by omega, by omega⟩
  · rintro σ' H' ⟨v, i', d', z', rfl, rfl, hd', hi0', hi'⟩
    have e3 : upd H st (.lst (stL sc i' d' (c + 1) z')) st = some (.lst (stL sc i' d' (c + 1) z')) := upd_same
    have e4 : ∀ i2 d2 c2 z2, upd H st (.lst (stL sc i2 d2 c2 z2)) sc = some (.lst (cs.map V.int)) := fun i2 d2 c2 z2 => by rw [upd_ne hne]; exact h2
    have fin : ∀ (r : Int) (d2 : Int), 0 ≤ d2 → 0 ≤ r → r < m → Q (.int r) (upd H st (.lst (stL sc i' d2 (c + 1) z'))) := fun r d2 h0 hr0 hr1 =>
      q r _ hr0 hr1 Keep.upd ⟨cs, i', d2, c + 1, z', upd_same, e4 _ _ _ _, h0, hi0', hi', h63, hne⟩ ⟨_, rfl⟩
    -- if state[2] > 0
    refine ⟨_, rfl, st, _, 2, _, rfl, rfl, SqL.of e3, rfl, _, _, rfl, rfl, _, rfl, ?_⟩
    refine ite2 (fun _ => ?_) (fun _ => ?_)
    · refine ⟨_, rfl, st, _, 2, _, rfl, rfl, SqL.of e3, rfl, .inl ⟨_, rfl, _, rfl, _, _, rfl, rfl, by omega, ?_⟩⟩
      refine ⟨_, rfl, st, _, 2, _, rfl, rfl, SqL.of e3, rfl, _, rfl, _, _, rfl, rfl, wide_div (b := 64) hm0 (by omega) (by decide) (by decide), ?_⟩
      refine ⟨_, rfl, st, _, 2, 2, rfl, rfl, e3, rfl, ?_⟩
      rw [upd_upd]
      refine ⟨_, rfl, fin _ _ (Int.ediv_nonneg hd' (Int.le_of_lt hm0)) ?_ ?_⟩
      · rw [Int.fmod_eq_emod_of_nonneg _ (Int.le_of_lt hm0)]; exact Int.emod_nonneg _ (by omega)
      · rw [Int.fmod_eq_emod_of_nonneg _ (Int.le_of_lt hm0)]; exact Int.emod_lt_of_pos _ hm0
    · -- one, two, three
      refine ⟨_, rfl, st, _, 4, _, rfl, rfl, SqL.of e3, rfl, _, rfl, st, _, 3, _, rfl, rfl, SqL.of e3, rfl, _, _, rfl, rfl, .inl ⟨by decide, by decide⟩, _, _, rfl, rfl, _, _, rfl, rfl, _, _, rfl, rfl, .inr ⟨by decide, by decide⟩, .inl ⟨_, rfl, _, _, rfl, rfl, (by show (2147483647 : Int) ≠ 0; decide), ?_⟩⟩
      dsimp only
      generalize hx : Int.fmod ((z' + 7919 * (c + 1) + 1) * 48271) 2147483647 = one
      have o0 : 0 ≤ one ∧ one < 2147483647 := by
        rw [← hx, Int.fmod_eq_emod_of_nonneg _ (by decide)]
        exact ⟨Int.emod_nonneg _ (by decide), Int.emod_lt_of_pos _ (by decide)⟩
      refine ⟨_, rfl, _, rfl, _, _, rfl, rfl, wide_div (b := 64) (by decide) (by decide) (by decide) (by decide), _, _, rfl, rfl, _, _, rfl, rfl, .inl ⟨by omega, by omega⟩, .inl ⟨_, rfl, _, _, rfl, rfl, (by show (2147483647 : Int) ≠ 0; decide), ?_⟩⟩
      dsimp only
      generalize hy : Int.fmod (one * (one / 1009 + 69621)) 2147483647 = two
      have t0 : 0 ≤ two ∧ two < 2147483647 := by
        rw [← hy, Int.fmod_eq_emod_of_nonneg _ (by decide)]
        exact ⟨Int.emod_nonneg _ (by decide), Int.emod_lt_of_pos _ (by decide)⟩
      refine ⟨_, rfl, _, rfl, _, _, rfl, rfl, wide_div (b := 64) (by decide) (by decide) (by decide) (by decide), _, _, rfl, rfl, _, _, rfl, rfl, .inl ⟨by omega, by omega⟩, .inl ⟨_, rfl, _, _, rfl, rfl, (by show (2147483399 : Int) ≠ 0; decide), ?_⟩⟩
      refine ⟨_, rfl, _, _, rfl, rfl, wide_div (b := 64) (by decide) (by decide) (by decide) (by decide), .inl ⟨_, rfl, _, rfl, _, _, rfl, rfl, by omega, ?_⟩⟩
      refine fin _ _ hd' ?_ ?_
      · rw [Int.fmod_eq_emod_of_nonneg _ (Int.le_of_lt hm0)]; exact Int.emod_nonneg _ (by omega)
      · rw [Int.fmod_eq_emod_of_nonneg _ (Int.le_of_lt hm0)]; exact Int.emod_lt_of_pos _ hm0
end
end K77
namespace K77
open PySem PySem.Spec PyProof.Rows L2 Td
/-! ### the letters -/
def abc : Str := "abcdefghijklmnopqrstuvwxyz"
theorem abc_list : abc.cps.toList = List.range' 97 26 := by decide +kernel
theorem abc_len : abc.length ≤ sizeLine := by
  rw [show abc.length = 26 by decide +kernel]; decide
theorem abc_at {i : Int} (h0 : 0 ≤ i) (h1 : i < 26) : atI abc.cps.toList i = some (97 + i.toNat) := by
  have : atI abc.cps.toList ((i.toNat : Nat) : Int) = some (97 + i.toNat) := atI_nat (by
    rw [abc_list, List.getElem?_range' (by omega), Nat.one_mul])
  rwa [show ((i.toNat : Nat) : Int) = i by omega] at this
theorem add_len (z : Str) (c : Nat) : (z ++ (⟨#[c]⟩ : Str)).length = z.length + 1 := by
  show (z.cps ++ #[c]).size = z.cps.size + 1
  simp
theorem add_low {z : Str} {c : Nat} (h : z.cps.toList.all lowc = true) (hc : lowc c = true) : (z ++ (⟨#[c]⟩ : Str)).cps.toList.all lowc = true := by
  show (z.cps ++ #[c]).toList.all lowc = true
  simp [List.all_append] at h ⊢
  exact ⟨h, hc⟩
theorem add_old {z : Str} {c j x : Nat} (h : z.cps[j]? = some x) : (z ++ (⟨#[c]⟩ : Str)).cps[j]? = some x := by
  show (z.cps ++ #[c])[j]? = some x
  have := (Array.getElem?_eq_some_iff.mp h).1
  rw [Array.getElem?_append_left this]; exact h
theorem add_new (z : Str) (c : Nat) : (z ++ (⟨#[c]⟩ : Str)).cps[z.length]? = some c := by
  show (z.cps ++ #[c])[z.cps.size]? = some c
  simp
theorem low_of {i : Int} (h0 : 0 ≤ i) (h1 : i < 26) : lowc (97 + i.toNat) = true := by
  unfold lowc
  simp
  omega
/-- what the names of one drawing have in common: at the place p stands the k-th letter -/
def letK (first k : Nat) : Nat := 97 + (first + 7 * k) % 26
structure NamesAt (p first : Nat) (ns : List Str) : Prop where
  good : ∀ z ∈ ns, isNm z = true
  at_ : ∀ (j : Nat) (z : Str), ns[j]? = some z → z.cps[p]? = some (letK first j)
theorem NamesAt.nodup {p first : Nat} {ns : List Str} (h : NamesAt p first ns) (hl : ns.length ≤ 26) : ns.Nodup := by
  rw [List.Nodup, List.pairwise_iff_getElem]
  intro i j hi hj hij e3
  have e1 := h.at_ i ns[i] (List.getElem?_eq_getElem hi)
  have e2 := h.at_ j ns[j] (List.getElem?_eq_getElem hj)
  rw [e3, e2] at e1
  have := Option.some.inj e1
  unfold letK at this
  omega
theorem NamesAt.snoc {p first : Nat} {ns : List Str} {z : Str} (h : NamesAt p first ns) (hz : isNm z = true) (ha : z.cps[p]? = some (letK first ns.length)) : NamesAt p first (ns ++ [z]) := by
  refine ⟨fun y hy => ?_, fun j y hy => ?_⟩
  · rcases List.mem_append.mp hy with q | q
    · exact h.good y q
    · rw [List.mem_singleton.mp q]; exact hz
  · by_cases hj : j < ns.length
    · rw [List.getElem?_append_left hj] at hy
      exact h.at_ j y hy
    · rw [List.getElem?_append_right (by omega)] at hy
      have : j = ns.length := by
        rcases Nat.lt_or_ge 0 (j - ns.length) with c | c
        · rw [List.getElem?_eq_none (by simp; omega)] at hy; cases hy
        · omega
      subst this
      simp at hy
      rw [← hy]; exact ha
def spNames : Sp := fun vs H Q _ => ∃ (st sc : Addr) (n : Int), vs = [.ref st, .int n] ∧ 0 ≤ n ∧ n ≤ 20 ∧ StOk H st sc ∧
  ∀ (p : Addr) (ns : List Str) (H' : Hp), Keep st H H' → StOk H' st sc → H p = none → p ≠ st → p ≠ sc → H' p = some (.lst (ns.map V.str)) → (ns.length : Int) = n → Names ns → Q (.ref p) H'
theorem StOk.at {H : Hp} {st sc : Addr} (h : StOk H st sc) : ∃ L, H st = some (.lst L) := by
  obtain ⟨cs, i, d, c, s, h1, _⟩ := h
  exact ⟨_, h1⟩
theorem StOk.scat {H : Hp} {st sc : Addr} (h : StOk H st sc) : ∃ L, H sc = some (.lst L) := by
  obtain ⟨cs, i, d, c, s, h1, h2, _⟩ := h
  exact ⟨_, h2⟩
theorem StOk.other {H : Hp} {st sc p : Addr} {o : HO} (h : StOk H st sc) (hp : p ≠ st) (hq : p ≠ sc) : StOk (upd H p o) st sc := by
  obtain ⟨cs, i, d, c, s, h1, h2, r⟩ := h
  exact ⟨cs, i, d, c, s, by rw [upd_ne (Ne.symm hp)]; exact h1, by rw [upd_ne (Ne.symm hq)]; exact h2, r⟩
theorem StOk.ne {H : Hp} {st sc p : Addr} (h : StOk H st sc) (hp : H p = none) : p ≠ st ∧ p ≠ sc := by
  obtain ⟨L, h1⟩ := h.at
  obtain ⟨M, h2⟩ := h.scat
  exact ⟨Ne.symm (ne_of_none h1 hp), Ne.symm (ne_of_none h2 hp)⟩
theorem StOk.new {H : Hp} {st sc p : Addr} {o : HO} (h : StOk H st sc) (hp : H p = none) : StOk (upd H p o) st sc :=
  h.other (h.ne hp).1 (h.ne hp).2
section
variable {P : Program} {w : World} {K : PySem.W.Frag} {mg : Str → Option Value} {base : Heap}
theorem ok_state (T : Tops w K mg) : FnOk P w K mg base CX0 1 T.a__law_state T.d__law_state ["_law_script"] (spState K) := by
  refine T.F__law_state.ok sc_law_state (fun vs H Q E h => ?_) (fun cdv A outer s H vs Q E hr h => ?_)
  · obtain ⟨a, ns, rfl, _⟩ := h
    rfl
  obtain ⟨a, ns, rfl, hS, hl, q⟩ := h
  refine ⟨_, (pss_one (ps_ret (pe_lst (pa_cons (pe_callTy call_list_of rfl T.z_list (by decide +kernel) (pa_cons (pe_slice sl_list (pv 0) po_none (po_some pe_int)) pa_nil)) (pa_cons pe_int (pa_cons pe_int (pa_cons pe_int (pa_cons pe_int pa_nil)))))))), ?_⟩
  have hcut : cutV (ns.map V.int) none (some 63) = ns.map V.int := by
    unfold cutV
    rw [HT.sIx_none, show HT.sIx (ns.map V.int).length (ns.map V.int).length (some 63) = min 63 (ns.map V.int).length from HT.sIx_nat _ _ 63]
    rw [List.drop_zero, List.take_of_length_le (by rw [List.length_map]; omega)]
  refine ⟨_, rfl, 63, rfl, a, _, rfl, hS, fun p hp => ⟨p, _, rfl, .inl (SqL.of upd_same), fun l hl2 => ⟨by show 5 ≤ sizeLine; decide, fun st hst => ?_⟩⟩⟩
  rw [hcut] at hl2 hst ⊢
  have npl : p ≠ l := fun e => by rw [e, upd_same] at hl2; cases hl2
  have hl0 : H l = none := by rw [upd_ne (Ne.symm npl)] at hl2; exact hl2
  have nls : l ≠ st := fun e => by rw [e, upd_same] at hst; cases hst
  have hst2 : H st = none := by
    rw [upd_ne (Ne.symm nls)] at hst
    by_cases c : st = p
    · rw [c, upd_same] at hst; cases hst
    · rw [upd_ne c] at hst; exact hst
  refine q st l _ (fun b o e => ?_) hst2 hl0 ⟨ns, 0, 0, 0, 1, upd_same, by rw [upd_ne nls, upd_same], by decide, by decide, by omega, hl, nls⟩
  rw [upd_ne (ne_of_none e hst2), upd_ne (ne_of_none e hl0), upd_ne (ne_of_none e hp)]
  exact e
theorem ok_names (T : Tops w K mg) (G__law_draw : FnOk P w K mg base CX0 1 T.a__law_draw T.d__law_draw ["_law_state_here", "_law_many_here"] spDraw) :
    FnOk P w K mg base CX0 2 T.a__law_names T.d__law_names ["_law_state_here", "_law_many_here"] spNames := by
  refine T.F__law_names.ok sc_law_names (fun vs H Q E h => ?_) (fun cdv A outer s H vs Q E hr h => ?_)
  · obtain ⟨st, sc, m, rfl, _⟩ := h
    rfl
  obtain ⟨st, sc, n, rfl, hn0, hn1, hst, q⟩ := h
  refine ⟨_, (pss_cons (ps_set (i := 2) sc_law_names.nd rfl (Or.inl rfl) (pe_call G__law_draw (hr.mono (by omega)) rfl T.m__law_draw T.F__law_draw.kp T.b__law_draw .nil pass0 (pa_cons (pv 0) (pa_cons pe_int pa_nil))))
    (pss_cons (ps_set (i := 3) sc_law_names.nd rfl (Or.inl rfl) (pe_call G__law_draw (hr.mono (by omega)) rfl T.m__law_draw T.F__law_draw.kp T.b__law_draw .nil pass0 (pa_cons (pv 0) (pa_cons pe_int pa_nil))))
    (pss_cons (ps_set (i := 4) sc_law_names.nd rfl (Or.inl rfl) (pe_call G__law_draw (hr.mono (by omega)) rfl T.m__law_draw T.F__law_draw.kp T.b__law_draw .nil pass0 (pa_cons (pv 0) (pa_cons pe_int pa_nil))))
    (pss_cons (ps_set (i := 5) sc_law_names.nd rfl (Or.inl rfl) (pe_call G__law_draw (hr.mono (by omega)) rfl T.m__law_draw T.F__law_draw.kp T.b__law_draw .nil pass0 (pa_cons (pv 0) (pa_cons (pe_op op_pow pe_int pe_int) pa_nil))))
    (pss_cons (ps_set (i := 6) sc_law_names.nd rfl (Or.inl rfl) pe_str)
    (pss_cons (ps_set (i := 7) sc_law_names.nd rfl (Or.inl rfl) (pe_lst pa_nil))
    (pss_cons (ps_for PassesOwn.never rfl (pi_range1 rfl T.z_range (pa_cons (pv 1) pa_nil)) (pg_name (i := 8) sc_law_names.nd rfl (Or.inl rfl)) (pss_cons (ps_set (i := 9) sc_law_names.nd rfl (Or.inl rfl) (pv 5))
    (pss_cons (ps_set (i := 10) sc_law_names.nd rfl (Or.inl rfl) (pe_op op_add (pv 2) pe_int))
    (C8.pss_cut (ps_if (pt_cmpR op_eq (pv 4) pe_int (nomark _)) (pss_cons (ps_set (i := 9) sc_law_names.nd rfl (Or.inl rfl) (pe_call G__law_draw (hr.mono (by omega)) rfl T.m__law_draw T.F__law_draw.kp T.b__law_draw .nil pass0 (pa_cons (pv 0) (pa_cons (pe_op op_pow pe_int pe_int) pa_nil))))
    (pss_one (ps_set (i := 10) sc_law_names.nd rfl (Or.inl rfl) (pe_op op_add (pe_op op_add (pv 2) pe_int) (pe_call G__law_draw (hr.mono (by omega)) rfl T.m__law_draw T.F__law_draw.kp T.b__law_draw .nil pass0 (pa_cons (pv 0) (pa_cons (pe_op op_sub pe_int (pv 2)) pa_nil))))))) pss_nil)
    (pss_cons (ps_set (i := 11) sc_law_names.nd rfl (Or.inl rfl) pe_str)
    (pss_cons (ps_for PassesOwn.never rfl (pi_range1 rfl T.z_range (pa_cons (pv 10) pa_nil)) (pg_name (i := 12) sc_law_names.nd rfl (Or.inl rfl)) (pss_one (ps_if (pt_cmpR op_eq (pv 12) (pv 2) (nomark _)) (pss_one (ps_set (i := 11) sc_law_names.nd rfl (Or.inl rfl) (pe_op op_add_str (pv 11) (pe_ix ix_str (pv 6) (pe_op op_modN (pe_callTy call_int1 rfl T.z_int (by decide +kernel) (pa_cons (pe_op op_add (pv 3) (pe_op op_mul pe_int (pv 8))) pa_nil)) pe_int) (fun _ _ => rfl))))) (pss_cons (ps_set (i := 11) sc_law_names.nd rfl (Or.inl rfl) (pe_op op_add_str (pv 11) (pe_ix ix_str (pv 6) (pe_op op_modN (pe_callTy call_int1 rfl T.z_int (by decide +kernel) (pa_cons (pv 9) pa_nil)) pe_int) (fun _ _ => rfl))))
    (pss_one (ps_set (i := 9) sc_law_names.nd rfl (Or.inl rfl) (pe_op op_fdivW (pv 9) pe_int)))))))
    (pss_one (ps_expr (pe_bm PySem.F.plainAttrs_list PySem.F.slot_list_append PySem.F.type_list_append mt_append (pv 7) (pa_cons (pv 11) pa_nil))))))))))
    (pss_one (ps_ret (pv 7)))))))))), ?_⟩
  refine ⟨_, rfl, st, sc, 8, rfl, by decide, by decide, hst, fun pl H1 pl0 pl1 k1 s1 _ => ?_⟩
  refine ⟨_, rfl, st, sc, 26, rfl, by decide, by decide, s1, fun fi H2 fi0 fi1 k2 s2 _ => ?_⟩
  refine ⟨_, rfl, st, sc, 2, rfl, by decide, by decide, s2, fun sh H3 sh0 sh1 k3 s3 _ => ?_⟩
  refine ⟨_, rfl, _, _, rfl, rfl, ⟨by decide, by decide, by decide⟩, st, sc, _, rfl, by decide, by decide, s3, fun ba H4 ba0 ba1 k4 s4 _ => ?_⟩
  have k04 : Keep st H H4 := k1.trans (k2.trans (k3.trans k4))
  refine ⟨Nat.zero_le _, fun p hp => ?_⟩
  obtain ⟨nps, npc⟩ := s4.ne hp
  have hp0 : H p = none := k04.free nps hp
  refine ⟨_, rfl, n, rfl, by omega, by omega, for_range (lo := 0) (n := n.toNat) (fun i σ H' => ∃ (v8 v9 v10 v11 v12 : Option V) (ns : List Str),
    σ = [some (.ref st), some (.int n), some (.int pl), some (.int fi), some (.int sh), some (.int ba), some (.str abc), some (.ref p), v8, v9, v10, v11, v12] ∧
    Keep st H H' ∧ StOk H' st sc ∧ H' p = some (.lst (ns.map V.str)) ∧ ns.length = i ∧ NamesAt pl.toNat fi.toNat ns)
    ⟨none, none, none, none, none, [], rfl, k04.trans (Keep.new hp), s4.new hp, upd_same, rfl, ⟨fun z h => (List.not_mem_nil h).elim, fun j z h => by simp at h⟩⟩ ?_ ?_⟩
  · rintro i σ H' hi ⟨v8, v9, v10, v11, v12, ns, rfl, kH, sH, hpH, hlen, hN⟩
    refine ⟨_, rfl, _, rfl, _, _, rfl, rfl, ?_⟩
    refine ⟨fun σ' H'' => ∃ (o sz : Int), σ' = [some (.ref st), some (.int n), some (.int pl), some (.int fi), some (.int sh), some (.int ba), some (.str abc), some (.ref p), some (.int (0 + i)), some (.int o), some (.int sz), v11, v12] ∧
      Keep st H H'' ∧ StOk H'' st sc ∧ H'' p = some (.lst (ns.map V.str)) ∧ 0 ≤ o ∧ pl + 1 ≤ sz ∧ sz ≤ 8, ?_, ?_⟩
    · refine ⟨_, rfl, rfl, _, rfl, ?_⟩
      refine ite2 (fun _ => ?_) (fun _ => ⟨ba, pl + 1, rfl, kH, sH, hpH, ba0, by omega, by omega⟩)
      refine ⟨_, rfl, _, _, rfl, rfl, ⟨by decide, by decide, by decide⟩, st, sc, _, rfl, by decide, by decide, sH, fun o H5 o0 o1 k5 s5 _ => ?_⟩
      refine ⟨_, rfl, _, _, rfl, rfl, _, rfl, _, rfl, _, _, rfl, rfl, st, sc, _, rfl, by omega, by omega, s5, fun sz H6 z0 z1 k6 s6 _ => ⟨_, _, rfl, rfl, ?_⟩⟩
      exact ⟨o, _, rfl, kH.trans (k5.trans k6), s6, k6 _ _ nps (k5 _ _ nps hpH), o0, by omega, by omega⟩
    · rintro σ' H'' ⟨o, sz, rfl, kJ, sJ, hpJ, o0, sz0, sz1⟩
      -- name = ''; for at in range(size)
      refine ⟨_, rfl, sz, rfl, by omega, by omega, for_range (lo := 0) (n := sz.toNat) (fun j σ H5 => ∃ (o : Int) (z : Str) (v12 : Option V),
        σ = [some (.ref st), some (.int n), some (.int pl), some (.int fi), some (.int sh), some (.int ba), some (.str abc), some (.ref p), some (.int (0 + i)), some (.int o), some (.int sz), some (.str z), v12] ∧
        H5 = H'' ∧ 0 ≤ o ∧ z.length = j ∧ z.cps.toList.all lowc = true ∧ (pl.toNat < j → z.cps[pl.toNat]? = some (letK fi.toNat i)))
        ⟨o, "", v12, rfl, rfl, o0, by decide +kernel, by decide +kernel, fun h => by omega⟩ ?_ ?_⟩
      · rintro j σ H5 hj ⟨o, z, v12, rfl, rfl, o0, zl, za, zp⟩
        have zsz : z.length + 1 ≤ sizeLine := Nat.le_of_lt (small1000 (by omega))
        refine ⟨_, rfl, _, rfl, rfl, _, rfl, ?_⟩
        refine ite2 (fun c => ?_) (fun c => ?_)
        · have c' : (V.int (0 + (j : Int))) = V.int pl := of_decide_eq_true c
          have cj : (0 : Int) + (j : Int) = pl := by injection c'
          have m0 : 0 ≤ Int.fmod (fi + 7 * (0 + (i : Int))) 26 ∧ Int.fmod (fi + 7 * (0 + (i : Int))) 26 < 26 := by
            rw [Int.fmod_eq_emod_of_nonneg _ (by decide)]
            exact ⟨Int.emod_nonneg _ (by decide), Int.emod_lt_of_pos _ (by decide)⟩
          have mk : (Int.fmod (fi + 7 * (0 + (i : Int))) 26).toNat = (fi.toNat + 7 * i) % 26 := by
            rw [Int.fmod_eq_emod_of_nonneg _ (by decide)]
            omega
          refine ⟨_, rfl, _, rfl, _, rfl, _, rfl, _, _, rfl, rfl, .inl ⟨by decide, by decide⟩, _, _, rfl, rfl, .inl ⟨_, rfl, _, _, rfl, rfl, (by show (26 : Int) ≠ 0; decide), abc, _, _, rfl, rfl, abc_len, abc_at m0.1 m0.2, _, _, rfl, rfl, zsz, ?_⟩⟩
          refine ⟨o, _, _, rfl, rfl, o0, by rw [add_len, zl], add_low za (low_of m0.1 m0.2), fun _ => ?_⟩
          have hz : z.length = pl.toNat := by omega
          have e := add_new z (97 + (Int.fmod (fi + 7 * (0 + (i : Int))) 26).toNat)
          rw [hz, mk] at e
          unfold letK
          rw [mk]
          exact e
        · have m0 : 0 ≤ Int.fmod o 26 ∧ Int.fmod o 26 < 26 := by
            rw [Int.fmod_eq_emod_of_nonneg _ (by decide)]
            exact ⟨Int.emod_nonneg _ (by decide), Int.emod_lt_of_pos _ (by decide)⟩
          refine ⟨_, rfl, _, rfl, _, rfl, .inl ⟨_, rfl, _, _, rfl, rfl, (by show (26 : Int) ≠ 0; decide), abc, _, _, rfl, rfl, abc_len, abc_at m0.1 m0.2, _, _, rfl, rfl, zsz, ?_⟩⟩
          refine ⟨_, rfl, _, _, rfl, rfl, wide_div (b := 64) (by decide) (by decide) (by decide) (by decide), ?_⟩
          refine ⟨o / 26, _, _, rfl, rfl, Int.ediv_nonneg o0 (by decide), by rw [add_len, zl], add_low za (low_of m0.1 m0.2), fun hlt => ?_⟩
          have hne : ¬ (V.int (0 + (j : Int)) = V.int pl) := of_decide_eq_false (Bool.eq_false_iff.mpr c)
          have hne2 : ¬ ((0 : Int) + (j : Int) = pl) := fun e => hne (by rw [e])
          exact add_old (zp (by omega))
      · rintro σ H5 ⟨o, z, v12, rfl, rfl, o0, zl, za, zp⟩
        have hns : (ns.map V.str).length < sizeLine := small1000 (by rw [List.length_map]; omega)
        refine ⟨_, rfl, .inl ⟨rfl, _, SqL.of hpJ⟩, _, rfl, p, _, _, rfl, rfl, hpJ, hns, ?_⟩
        have hnm : isNm z = true := by
          unfold isNm
          rw [za, zl]
          simp
          omega
        refine ⟨_, _, _, _, _, ns ++ [z], rfl, kJ.own hp0, sJ.other nps npc, ?_, ?_, ?_⟩
        · rw [upd_same, List.map_append]; rfl
        · rw [List.length_append, hlen]; rfl
        · exact hN.snoc hnm (by rw [hlen]; exact zp (by omega))
  · rintro σ H' ⟨v8, v9, v10, v11, v12, ns, rfl, kH, sH, hpH, hlen, hN⟩
    refine ⟨_, rfl, q p ns H' kH sH hp0 nps npc hpH (by omega) ⟨hN.good, hN.nodup (by omega)⟩⟩
end
end K77
namespace K77
open PySem PySem.Spec PyProof.Rows L2 Td
/-- all rows, counted at all depths; n: how deep it may still go -/
def spMany (K : PySem.W.Frag) (n : Nat) : Sp := fun vs H Q _ => ∃ (v : V) (rs : List Td.Row) (S : Sc) (dep : Nat),
  vs = [v] ∧ Dp K H v (.tuple (rowsD rs)) ∧ okRs S dep rs ∧ dep ≤ 4 ∧ 5 ≤ dep + n ∧ Q (.int (cnts rs : Nat)) H
section
variable {P : Program} {w : World} {K : PySem.W.Frag} {mg : Str → Option Value} {base : Heap}
theorem ok_many1 (T : Tops w K mg) {n : Nat} (G__law_many : FnOk P w K mg base CX0 n T.a__law_many T.d__law_many ["_law_rows_here"] (spMany K n)) :
    FnOk P w K mg base CX0 (n + 1) T.a__law_many T.d__law_many ["_law_rows_here"] (spMany K (n + 1)) := by
  refine T.F__law_many.ok sc_law_many (fun vs H Q E h => ?_) (fun cdv A outer s H vs Q E hr h => ?_)
  · obtain ⟨v, rs, S, dep, rfl, _⟩ := h
    rfl
  obtain ⟨v, rs, S, dep, rfl, hD, ok, hdep, hn, q⟩ := h
  obtain ⟨a, xs, rfl, hS, hl, hx⟩ := rows_at hD
  refine ⟨_, (pss_cons (ps_set (i := 1) sc_law_many.nd rfl (Or.inl rfl) (pe_callB call_len rfl T.z_len PySem.boot_len (pa_cons (pv 0) pa_nil)))
    (pss_cons (ps_for PassesOwn.never rfl (pi_tup (pv 0)) (pg_name (i := 2) sc_law_many.nd rfl (Or.inl rfl)) (pss_one (ps_if (pt_cmpR op_eq (pe_ix ix_tup (pv 2) pe_int (fun _ _ => rfl)) pe_str (nomark _)) (pss_one (ps_aug (i := 1) sc_law_many.nd rfl (Or.inl rfl) (pe_op op_add (pe_call G__law_many (hr.mono (by omega)) rfl T.m__law_many T.F__law_many.kp T.b__law_many .nil pass0 (pa_cons (pe_ix ix_tup (pv 2) pe_int (fun _ _ => rfl)) pa_nil)) (pe_call G__law_many (hr.mono (by omega)) rfl T.m__law_many T.F__law_many.kp T.b__law_many .nil pass0 (pa_cons (pe_ix ix_tup (pv 2) pe_int (fun _ _ => rfl)) pa_nil))) ip_add)) pss_nil)))
    (pss_one (ps_ret (pv 1))))), ?_⟩
  refine ⟨_, rfl, _, _, rfl, .inr ⟨_, hS, rfl⟩, ?_⟩
  refine ⟨_, rfl, a, rfl, ⟨_, hS⟩, for_tup (K := K) (a := a) (xs := xs) (fun i σ H' => ∃ (v2 : Option V), H' = H ∧
    σ = [some (.ref a), some (.int ((cnts (rs.take i) + (rs.length - i) : Nat) : Int)), v2])
    ⟨none, rfl, ?_⟩ (fun i σ H' _ ⟨_, e, _⟩ => by rw [e]; exact hS) ?_ ?_⟩
  · show [some (V.ref a), some (V.int (xs.length : Nat)), none] = _
    rw [hl]
    simp [cnts]
  · rintro i x σ H' hi ⟨v2, rfl, rfl⟩
    obtain ⟨r, hr2, hDr⟩ := hx i x hi
    have hil : i < rs.length := (List.getElem?_eq_some_iff.mp hr2).1
    have okr := okRs_get ok hr2
    have step := cnts_take hr2
    have hp := cnt_pos r
    cases hite : isIte r with
    | false =>
      obtain ⟨ar, ys, rfl, hSr, h0⟩ := row_at hDr
      refine ⟨_, rfl, ar, _, 0, _, rfl, rfl, hSr, atI_nat (j := 0) h0, rfl, _, rfl, ?_⟩
      refine if_false_of ((tag_if r).trans hite) ⟨some (.ref ar), rfl, ?_⟩
      have hc := cnt_flat hite
      have e : cnts (rs.take i) + (rs.length - i) = cnts (rs.take (i + 1)) + (rs.length - (i + 1)) := by omega
      rw [← e]; rfl
    | true =>
      cases r with
      | ite sl wd y n' =>
        obtain ⟨ar, vy, vn, rfl, hSr, hy, hn'⟩ := ite_at hDr
        unfold okR at okr
        obtain ⟨hd3, _, _, oy, on⟩ := okr
        refine ⟨_, rfl, ar, _, 0, _, rfl, rfl, hSr, rfl, rfl, _, rfl, ?_⟩
        refine if_true_of (by decide +kernel) ?_
        refine ⟨_, rfl, _, rfl, ar, _, 3, _, rfl, rfl, hSr, rfl, vy, y, S, dep + 1, rfl, hy, oy, by omega, by omega, ?_⟩
        refine ⟨_, rfl, ar, _, 4, _, rfl, rfl, hSr, rfl, vn, n', S, dep + 1, rfl, hn', on, by omega, by omega, ?_⟩
        refine ⟨_, _, rfl, rfl, _, _, rfl, rfl, some (.ref ar), rfl, ?_⟩
        have ec : Td.cnt (.ite sl wd y n') = 1 + cnts y + cnts n' := by unfold Td.cnt; rfl
        have e : ((cnts (rs.take i) + (rs.length - i) : Nat) : Int) + ((cnts y : Nat) + (cnts n' : Nat)) = ((cnts (rs.take (i + 1)) + (rs.length - (i + 1)) : Nat) : Int) := by omega
        rw [← e]; rfl
      | _ => cases hite
  · rintro σ H' ⟨v2, rfl, rfl⟩
    refine ⟨_, rfl, ?_⟩
    rw [hl, List.take_length, Nat.sub_self, Nat.add_zero]
    exact q
theorem ok_many (T : Tops w K mg) : ∀ n, FnOk P w K mg base CX0 n T.a__law_many T.d__law_many ["_law_rows_here"] (spMany K n)
  | 0 => by
    have no : ∀ vs H Q E, ¬ spMany K 0 vs H Q E := fun vs H Q E h => by
      obtain ⟨_, _, _, dep, _, _, _, h1, h2, _⟩ := h
      omega
    exact ⟨fun vs H Q E h => absurd h (no vs H Q E), fun A outer s H args us vs Q E _ _ _ _ h => absurd h (no vs H Q E)⟩
  | n + 1 => ok_many1 T (ok_many T n)
end
end K77
namespace K77
open PySem PySem.Spec PyProof.Rows L2 Td
/-- the dict that says what a body may be, at d -/
structure ShapeAt (K : PySem.W.Frag) (st : Addr) (H : Hp) (d : Addr) (S : Sc) (slots : List Str) : Prop where
  ex : ∃ (kvs : List (Key × V)) (aw asl ac aso : Addr) (pk wr : Bool),
    H d = some (.dK kvs) ∧ kvs.length ≤ 100 ∧
    valV kvs (.inr "words") = some (.ref aw) ∧ SqT K H aw (S.words.map V.str) ∧ aw ≠ st ∧
    valV kvs (.inr "slots") = some (.ref asl) ∧ SqL K H asl (slots.map V.str) ∧ asl ≠ st ∧
    valV kvs (.inr "cells") = some (.ref ac) ∧ SqL K H ac (S.readable.map V.str) ∧ ac ≠ st ∧
    valV kvs (.inr "sources") = some (.ref aso) ∧ SqT K H aso (S.sources.map V.str) ∧ aso ≠ st ∧
    valV kvs (.inr "kind") = some (.str (if S.eff then "effects" else "derived")) ∧
    valV kvs (.inr "peeks") = some (.bl pk) ∧ valV kvs (.inr "writes") = some (.bl wr) ∧ (pk = true → S.eff = true) ∧ (wr = true → S.eff = true)
  ne : d ≠ st
  w0 : S.words ≠ []
  s0 : slots ≠ []
  c0 : S.readable ≠ []
  o0 : S.sources ≠ []
  small : S.words.length ≤ 100 ∧ slots.length ≤ 100 ∧ S.readable.length ≤ 100 ∧ S.sources.length ≤ 100
  good : ∀ z ∈ slots, isNm z = true
section
variable {K : PySem.W.Frag} {H H' : Hp} {st sc d : Addr} {S : Sc} {slots : List Str}
theorem ShapeAt.keep (h : ShapeAt K st H d S slots) (k : Keep st H H') : ShapeAt K st H' d S slots := by
  obtain ⟨kvs, aw, asl, ac, aso, pk, wr, e0, e00, e1, e2, e3, e4, e5, e6, e7, e8, e9, e10, e11, e12, r⟩ := h.ex
  exact ⟨⟨kvs, aw, asl, ac, aso, pk, wr, k _ _ h.ne e0, e00, e1, SqT.keep k e3 e2, e3, e4, SqL.keep k e6 e5, e6, e7, SqL.keep k e9 e8, e9, e10, SqT.keep k e12 e11, e12, r⟩, h.ne, h.w0, h.s0, h.c0, h.o0, h.small, h.good⟩
theorem dget_of {a : Addr} {kvs : List (Key × V)} {z : Str} {v : V} (e : H a = some (.dK kvs)) (h : valV kvs (.inr z) = some v) : DGet H a (.str z) (some v) := by
  rw [← h]; exact DGet.k (k := Sum.inr z) e
/-- an item, drawn -/
theorem pick {xs : List Str} {r : Int} (h0 : 0 ≤ r) (h1 : r < (xs.map V.str).length) : ∃ z ∈ xs, atI (xs.map V.str) r = some (.str z) := by
  rw [List.length_map] at h1
  have hl : r.toNat < xs.length := by omega
  refine ⟨xs[r.toNat], List.getElem_mem hl, ?_⟩
  have : atI (xs.map V.str) ((r.toNat : Nat) : Int) = some (V.str xs[r.toNat]) := atI_nat (by rw [List.getElem?_map, List.getElem?_eq_getElem hl]; rfl)
  rwa [show ((r.toNat : Nat) : Int) = r by omega] at this
def rLen (K : PySem.W.Frag) : List V → Hp → VK → Prop := fun xs H Q => ∃ x n, xs = [x] ∧ LenV K x H n ∧ Q (.int n) H
def tPick (K : PySem.W.Frag) (r : R2) (key : Str) : TE := tOp r (tDGet (tVar 1) (tC (.str key)))
  (tCall spDraw [] E0 (tCons (tVar 0) (tCons (tCB (rLen K) (tCons (tDGet (tVar 1) (tC (.str key))) tNil)) tNil)))
theorem pick_l {σ : L2.St} {Q : VK} {key : Str} {kvs : List (Key × V)} {a : Addr} {xs : List Str} (h0 : σ[0]? = some (some (.ref st))) (h1 : σ[1]? = some (some (.ref d)))
    (hd : H d = some (.dK kvs)) (nd : d ≠ st) (hv : valV kvs (.inr key) = some (.ref a)) (hS : SqL K H a (xs.map V.str)) (na : a ≠ st) (hx : xs ≠ []) (hl : xs.length ≤ 100) (ok : StOk H st sc)
    (q : ∀ z ∈ xs, ∀ H', Keep st H H' → StOk H' st sc → Q (.str z) H') : tPick K (rIxL K) key σ H Q := by
  have hp : 0 < xs.length := List.length_pos_iff.mpr hx
  refine ⟨_, h1, d, _, rfl, dget_of hd hv, _, h0, _, h1, d, _, rfl, dget_of hd hv, _, (xs.map V.str).length, rfl, .inl ⟨_, hS, rfl⟩, st, sc, _, rfl, ?_, ?_, ok, fun r H' r0 r1 k o _ => ?_⟩
  · rw [List.length_map]; omega
  · rw [List.length_map]; omega
  · obtain ⟨z, hz, e⟩ := pick r0 r1
    exact ⟨a, _, r, _, rfl, rfl, SqL.keep k na hS, e, q z hz H' k o⟩
theorem pick_t {σ : L2.St} {Q : VK} {key : Str} {kvs : List (Key × V)} {a : Addr} {xs : List Str} (h0 : σ[0]? = some (some (.ref st))) (h1 : σ[1]? = some (some (.ref d)))
    (hd : H d = some (.dK kvs)) (nd : d ≠ st) (hv : valV kvs (.inr key) = some (.ref a)) (hS : SqT K H a (xs.map V.str)) (na : a ≠ st) (hx : xs ≠ []) (hl : xs.length ≤ 100) (ok : StOk H st sc)
    (q : ∀ z ∈ xs, ∀ H', Keep st H H' → StOk H' st sc → Q (.str z) H') : tPick K (rIxT K) key σ H Q := by
  have hp : 0 < xs.length := List.length_pos_iff.mpr hx
  refine ⟨_, h1, d, _, rfl, dget_of hd hv, _, h0, _, h1, d, _, rfl, dget_of hd hv, _, (xs.map V.str).length, rfl, .inr ⟨_, hS, rfl⟩, st, sc, _, rfl, ?_, ?_, ok, fun r H' r0 r1 k o _ => ?_⟩
  · rw [List.length_map]; omega
  · rw [List.length_map]; omega
  · obtain ⟨z, hz, e⟩ := pick r0 r1
    exact ⟨a, _, r, _, rfl, rfl, SqT.keep k na hS, e, q z hz H' k o⟩
end
def spRow (K : PySem.W.Frag) : Sp := fun vs H Q _ => ∃ (st sc d : Addr) (S : Sc) (slots : List Str), vs = [.ref st, .ref d] ∧ StOk H st sc ∧ ShapeAt K st H d S slots ∧
  ∀ (v : V) (r : Td.Row) (H' : Hp), Keep st H H' → StOk H' st sc → (∀ dep, okR S dep r) → isIte r = false → Tn K H' v (rowD r) → Q v H'
section
variable {P : Program} {w : World} {K : PySem.W.Frag} {mg : Str → Option Value} {base : Heap}
theorem ok_row (T : Tops w K mg) (G__law_draw : FnOk P w K mg base CX0 1 T.a__law_draw T.d__law_draw ["_law_state_here", "_law_many_here"] spDraw) :
    FnOk P w K mg base CX0 2 T.a__law_row T.d__law_row ["_law_state_here", "_law_shape"] (spRow K) := by
  refine T.F__law_row.ok sc_law_row (fun vs H Q E h => ?_) (fun cdv A outer s H vs Q E hr h => ?_)
  · obtain ⟨st, sc, d, S, slots, rfl, _⟩ := h
    rfl
  obtain ⟨st, sc, d, S, slots, rfl, ok, sh, q⟩ := h
  refine ⟨_, (pss_cons (ps_set (i := 2) sc_law_row.nd rfl (Or.inl rfl) (pe_call G__law_draw (hr.mono (by omega)) rfl T.m__law_draw T.F__law_draw.kp T.b__law_draw .nil pass0 (pa_cons (pv 0) (pa_cons pe_int pa_nil))))
    (pss_cons (ps_set (i := 3) sc_law_row.nd rfl (Or.inl rfl) (pe_ix ix_list (pe_dget (hu_of hr) (pv 1) pe_str (fun _ _ => rfl)) (pe_call G__law_draw (hr.mono (by omega)) rfl T.m__law_draw T.F__law_draw.kp T.b__law_draw .nil pass0 (pa_cons (pv 0) (pa_cons (pe_callB call_len rfl T.z_len PySem.boot_len (pa_cons (pe_dget (hu_of hr) (pv 1) pe_str (fun _ _ => rfl)) pa_nil)) pa_nil))) (fun _ _ => rfl)))
    (pss_cons (ps_if (pt_cmpR op_eq (pv 2) pe_int (nomark _)) (pss_one (ps_ret (pe_tup (pa_cons pe_str (pa_cons (pv 3) (pa_cons (pe_ix ix_tup (pe_dget (hu_of hr) (pv 1) pe_str (fun _ _ => rfl)) (pe_call G__law_draw (hr.mono (by omega)) rfl T.m__law_draw T.F__law_draw.kp T.b__law_draw .nil pass0 (pa_cons (pv 0) (pa_cons (pe_callB call_len rfl T.z_len PySem.boot_len (pa_cons (pe_dget (hu_of hr) (pv 1) pe_str (fun _ _ => rfl)) pa_nil)) pa_nil))) (fun _ _ => rfl)) pa_nil)))))) pss_nil)
    (C8.pss_cut (ps_if (PW.pt (pw_and (pt_cmpR op_eq (pv 2) pe_int (nomark _)) (pw_and1 (pt_cmpR op_eq (pe_dget (hu_of hr) (pv 1) pe_str (fun _ _ => rfl)) pe_str (nomark _))))) (pss_one (ps_ret (pe_tup (pa_cons pe_str (pa_cons (pv 3) pa_nil))))) pss_nil)
    (pss_cons (ps_if (pt_cmpR op_eq (pv 2) pe_int (nomark _)) (pss_one (ps_ret (pe_tup (pa_cons pe_str (pa_cons (pv 3) pa_nil))))) pss_nil)
    (C8.pss_cut (ps_if (PW.pt (pw_and (pt_cmpR op_eq (pv 2) pe_int (nomark _)) (pw_and1 (pt_val (pe_dget (hu_of hr) (pv 1) pe_str (fun _ _ => rfl)))))) (pss_one (ps_ret (pe_tup (pa_cons pe_str (pa_cons (pe_ix ix_tup (pe_dget (hu_of hr) (pv 1) pe_str (fun _ _ => rfl)) (pe_call G__law_draw (hr.mono (by omega)) rfl T.m__law_draw T.F__law_draw.kp T.b__law_draw .nil pass0 (pa_cons (pv 0) (pa_cons (pe_callB call_len rfl T.z_len PySem.boot_len (pa_cons (pe_dget (hu_of hr) (pv 1) pe_str (fun _ _ => rfl)) pa_nil)) pa_nil))) (fun _ _ => rfl)) (pa_cons (pv 3) pa_nil)))))) pss_nil)
    (pss_cons (ps_set (i := 4) sc_law_row.nd rfl (Or.inl rfl) (pe_ix ix_list (pe_dget (hu_of hr) (pv 1) pe_str (fun _ _ => rfl)) (pe_call G__law_draw (hr.mono (by omega)) rfl T.m__law_draw T.F__law_draw.kp T.b__law_draw .nil pass0 (pa_cons (pv 0) (pa_cons (pe_callB call_len rfl T.z_len PySem.boot_len (pa_cons (pe_dget (hu_of hr) (pv 1) pe_str (fun _ _ => rfl)) pa_nil)) pa_nil))) (fun _ _ => rfl)))
    (C8.pss_cut (ps_if (PW.pt (pw_and (pt_cmpR op_eq (pv 2) pe_int (nomark _)) (pw_and1 (pt_val (pe_dget (hu_of hr) (pv 1) pe_str (fun _ _ => rfl)))))) (pss_one (ps_ret (pe_tup (pa_cons pe_str (pa_cons (pv 4) (pa_cons (pv 3) pa_nil)))))) pss_nil)
    (pss_one (ps_ret (pe_tup (pa_cons pe_str (pa_cons (pv 4) (pa_cons (pv 3) pa_nil)))))))))))))), ?_⟩
  -- kind, slot
  refine ⟨_, rfl, st, sc, 6, rfl, by decide, by decide, ok, fun kd H1 kd0 kd1 k1 o1 _ => ?_⟩
  have sh1 := sh.keep k1
  obtain ⟨kvs, aw, asl, ac, aso, pk, wr, e0, e00, e1, e2, e3, e4, e5, e6, e7, e8, e9, e10, e11, e12, e13, e14, e15, e16, e17⟩ := sh1.ex
  refine pick_l (key := "slots") rfl rfl e0 sh1.ne e4 e5 e6 sh1.s0 sh1.small.2.1 o1 fun sl hsl H2 k2 o2 => ?_
  have hsl' := sh.good sl hsl
  have k12 := k1.trans k2
  have sh2 := sh1.keep k2
  obtain ⟨kvs, aw, asl, ac, aso, pk, wr, e0, e00, e1, e2, e3, e4, e5, e6, e7, e8, e9, e10, e11, e12, e13, e14, e15, e16, e17⟩ := sh2.ex
  have give : ∀ (zs : List Str) (r : Td.Row), zs.length ≤ 5 → rowD r = .tuple (zs.map PyData.str) → (∀ dep, okR S dep r) → isIte r = false →
      ∀ H3, Keep st H H3 → StOk H3 st sc → (zs.map V.str).length ≤ sizeLine ∧ ∀ p, H3 p = none → Q (.ref p) (upd H3 p (.tup (zs.map V.str))) := fun zs r hz hr ho hi H3 k3 o3 =>
    ⟨Nat.le_of_lt (small1000 (by rw [List.length_map]; omega)), fun p hp => q _ r _ (k3.trans (Keep.new hp)) (o3.new hp) ho hi (by rw [hr]; exact Tn.new (TnAll.strs zs) hp)⟩
  -- kind == 0: put
  refine ⟨_, rfl, rfl, _, rfl, ?_⟩
  refine ite2 (fun _ => ?_) (fun _ => ?_)
  · refine ⟨_, rfl, pick_t (key := "words") rfl rfl e0 sh2.ne e1 e2 e3 sh2.w0 sh2.small.1 o2 fun wd hwd H3 k3 o3 => ?_⟩
    exact give ["put", sl, wd] (.put sl wd) (Nat.le_of_ble_eq_true rfl) rfl (fun dep => by unfold okR; exact ⟨hsl', hwd⟩) rfl H3 (k12.trans k3) o3
  -- kind == 1 and shape["kind"] == "derived": give
  refine ⟨fun σ' H' => H' = H2 ∧ σ' = [some (.ref st), some (.ref d), some (.int kd), some (.str sl), none] ∧ (kd = 1 → S.eff = true), ?_, ?_⟩
  · refine ⟨_, rfl, rfl, _, rfl, ?_⟩
    refine ite2 (fun c => ?_) (fun c => ?_)
    · refine ⟨_, rfl, d, _, rfl, dget_of e0 e13, rfl, _, rfl, ?_⟩
      cases hE : S.eff with
      | false =>
        refine if_true_of (by rw [if_neg Bool.false_ne_true]; decide +kernel) ?_
        exact ⟨_, rfl, give ["give", sl] (.give sl) (Nat.le_of_ble_eq_true rfl) rfl (fun dep => by unfold okR; exact ⟨hE, hsl'⟩) rfl H2 k12 o2⟩
      | true =>
        refine if_false_of (by rw [if_pos rfl]; decide +kernel) ?_
        exact ⟨rfl, rfl, fun _ => rfl⟩
    · refine iteF ⟨rfl, rfl, fun e => absurd ?_ c⟩
      rw [e]; decide +kernel
  rintro σ' H' ⟨rfl, rfl, hk1⟩
  -- kind == 1: say
  refine ⟨_, rfl, rfl, _, rfl, ?_⟩
  refine ite2 (fun c => ?_) (fun _ => ?_)
  · have hk : kd = 1 := by
      have := of_decide_eq_true c
      injection this
    exact ⟨_, rfl, give ["say", sl] (.say sl) (Nat.le_of_ble_eq_true rfl) rfl (fun dep => by unfold okR; exact ⟨hk1 hk, hsl'⟩) rfl H' k12 o2⟩
  -- kind == 2 and shape["writes"]
  refine ⟨fun σ' H'' => H'' = H' ∧ σ' = [some (.ref st), some (.ref d), some (.int kd), some (.str sl), none], ?_, ?_⟩
  · refine ⟨_, rfl, rfl, _, rfl, ?_⟩
    refine ite2 (fun _ => ?_) (fun _ => iteF ⟨rfl, rfl⟩)
    refine ⟨_, rfl, d, _, rfl, dget_of e0 e15, _, rfl, ?_⟩
    refine ite2 (fun hw => ?_) (fun _ => ⟨rfl, rfl⟩)
    refine pick_t (key := "sources") rfl rfl e0 sh2.ne e10 e11 e12 sh2.o0 sh2.small.2.2.2 o2 fun so hso H3 k3 o3 => ⟨_, rfl, ?_⟩
    exact give ["write", so, sl] (.wr so sl) (Nat.le_of_ble_eq_true rfl) rfl (fun dep => by unfold okR; exact ⟨e17 hw, hso, hsl'⟩) rfl H3 (k12.trans k3) o3
  rintro σ' H'' ⟨rfl, rfl⟩
  -- cell
  refine pick_l (key := "cells") rfl rfl e0 sh2.ne e7 e8 e9 sh2.c0 sh2.small.2.2.1 o2 fun ce hce H3 k3 o3 => ?_
  have sh3 := sh2.keep k3
  obtain ⟨kvs3, aw3, asl3, ac3, aso3, pk3, wr3, f0, f00, f1, f2, f3, f4, f5, f6, f7, f8, f9, f10, f11, f12, f13, f14, f15, f16, f17⟩ := sh3.ex
  refine ⟨fun σ' H4 => H4 = H3 ∧ σ' = [some (.ref st), some (.ref d), some (.int kd), some (.str sl), some (.str ce)], ?_, ?_⟩
  · refine ⟨_, rfl, rfl, _, rfl, ?_⟩
    refine ite2 (fun _ => ?_) (fun _ => iteF ⟨rfl, rfl⟩)
    refine ⟨_, rfl, d, _, rfl, dget_of f0 f14, _, rfl, ?_⟩
    refine ite2 (fun hp => ?_) (fun _ => ⟨rfl, rfl⟩)
    exact ⟨_, rfl, _, rfl, give ["peek", ce, sl] (.rd true ce sl) (Nat.le_of_ble_eq_true rfl) rfl (fun dep => by unfold okR; exact ⟨fun _ => f16 hp, hce, hsl'⟩) rfl H3 (k12.trans k3) o3⟩
  rintro σ' H4 ⟨rfl, rfl⟩
  exact ⟨_, rfl, _, rfl, give ["read", ce, sl] (.rd false ce sl) (Nat.le_of_ble_eq_true rfl) rfl (fun dep => by unfold okR; exact ⟨(fun h => nomatch h), hce, hsl'⟩) rfl H4 (k12.trans k3) o3⟩
end
end K77
namespace K77
open PySem PySem.Spec PyProof.Rows L2 Td
def spRows (K : PySem.W.Frag) (n : Nat) : Sp := fun vs H Q _ => ∃ (st sc d : Addr) (S : Sc) (slots : List Str) (dep : Nat) (room : Int),
  vs = [.ref st, .ref d, .int (dep : Nat), .int room] ∧ StOk H st sc ∧ ShapeAt K st H d S slots ∧ dep ≤ 4 ∧ 6 ≤ dep + n ∧ 0 ≤ room ∧ room ≤ 100 ∧
  ∀ (v : V) (rs : List Td.Row) (H' : Hp), Keep st H H' → StOk H' st sc → okRs S dep rs → (cnts rs : Int) ≤ room → Tn K H' v (.tuple (rowsD rs)) → Q v H'
theorem cnts_one (r : Td.Row) : cnts [r] = Td.cnt r := by simp [cnts]
theorem rowsD_one (r : Td.Row) : rowsD [r] = [rowD r] := by simp [rowsD]
theorem cnts_len : ∀ rs : List Td.Row, rs.length ≤ cnts rs
  | [] => Nat.zero_le _
  | r :: rs => by
    have := cnts_len rs
    have := cnt_pos r
    simp only [cnts, List.length_cons]
    omega
section
variable {P : Program} {w : World} {K : PySem.W.Frag} {mg : Str → Option Value} {base : Heap}
theorem ok_rows1 (T : Tops w K mg) {n : Nat} (hn5 : 5 ≤ n)
    (G__law_draw : FnOk P w K mg base CX0 1 T.a__law_draw T.d__law_draw ["_law_state_here", "_law_many_here"] spDraw)
    (G__law_row : FnOk P w K mg base CX0 2 T.a__law_row T.d__law_row ["_law_state_here", "_law_shape"] (spRow K))
    (G__law_many : FnOk P w K mg base CX0 5 T.a__law_many T.d__law_many ["_law_rows_here"] (spMany K 5))
    (G__law_rows : FnOk P w K mg base CX0 n T.a__law_rows T.d__law_rows ["_law_state_here", "_law_shape", "_law_depth", "_law_room"] (spRows K (n - 5))) :
    FnOk P w K mg base CX0 (n + 1) T.a__law_rows T.d__law_rows ["_law_state_here", "_law_shape", "_law_depth", "_law_room"] (spRows K (n - 5 + 1)) := by
  refine T.F__law_rows.ok sc_law_rows (fun vs H Q E h => ?_) (fun cdv A outer s H vs Q E hr h => ?_)
  · obtain ⟨st, sc, d, S, slots, dep, room, rfl, _⟩ := h
    rfl
  obtain ⟨st, sc, d, S, slots, dep, room, rfl, ok, sh, hdep, hn, hr0, hr1, q⟩ := h
  refine ⟨_, (pss_cons (ps_set (i := 4) sc_law_rows.nd rfl (Or.inl rfl) (pe_lst pa_nil))
    (pss_cons (ps_set (i := 5) sc_law_rows.nd rfl (Or.inl rfl) (pv 3))
    (pss_cons (ps_for PassesOwn.never rfl (pi_range1 rfl T.z_range (pa_cons (pe_op op_add pe_int (pe_call G__law_draw (hr.mono (by omega)) rfl T.m__law_draw T.F__law_draw.kp T.b__law_draw .nil pass0 (pa_cons (pv 0) (pa_cons pe_int pa_nil)))) pa_nil)) (pg_name (i := 6) sc_law_rows.nd rfl (Or.inl rfl)) (pss_one (ps_ifC (PW.pt (pw_and (pt_cmpR op_ge (pv 5) pe_int (nomark _)) (pw_and (pt_cmpR op_lt (pv 2) pe_int (nomark _)) (pw_and1 (pt_cmpR op_eq (pe_call G__law_draw (hr.mono (by omega)) rfl T.m__law_draw T.F__law_draw.kp T.b__law_draw .nil pass0 (pa_cons (pv 0) (pa_cons pe_int pa_nil))) pe_int (nomark _)))))) (pss_cons (ps_set (i := 7) sc_law_rows.nd rfl (Or.inl rfl) (pe_ix ix_list (pe_dget (hu_of hr) (pv 1) pe_str (fun _ _ => rfl)) (pe_call G__law_draw (hr.mono (by omega)) rfl T.m__law_draw T.F__law_draw.kp T.b__law_draw .nil pass0 (pa_cons (pv 0) (pa_cons (pe_callB call_len rfl T.z_len PySem.boot_len (pa_cons (pe_dget (hu_of hr) (pv 1) pe_str (fun _ _ => rfl)) pa_nil)) pa_nil))) (fun _ _ => rfl)))
    (pss_cons (ps_set (i := 8) sc_law_rows.nd rfl (Or.inl rfl) (pe_ix ix_list (pe_dget (hu_of hr) (pv 1) pe_str (fun _ _ => rfl)) (pe_call G__law_draw (hr.mono (by omega)) rfl T.m__law_draw T.F__law_draw.kp T.b__law_draw .nil pass0 (pa_cons (pv 0) (pa_cons (pe_callB call_len rfl T.z_len PySem.boot_len (pa_cons (pe_dget (hu_of hr) (pv 1) pe_str (fun _ _ => rfl)) pa_nil)) pa_nil))) (fun _ _ => rfl)))
    (pss_cons (ps_set (i := 9) sc_law_rows.nd rfl (Or.inl rfl) (pe_ix ix_tup (pe_dget (hu_of hr) (pv 1) pe_str (fun _ _ => rfl)) (pe_call G__law_draw (hr.mono (by omega)) rfl T.m__law_draw T.F__law_draw.kp T.b__law_draw .nil pass0 (pa_cons (pv 0) (pa_cons (pe_callB call_len rfl T.z_len PySem.boot_len (pa_cons (pe_dget (hu_of hr) (pv 1) pe_str (fun _ _ => rfl)) pa_nil)) pa_nil))) (fun _ _ => rfl)))
    (pss_cons (ps_expr (pe_bm PySem.F.plainAttrs_list PySem.F.slot_list_append PySem.F.type_list_append mt_append (pv 4) (pa_cons (pe_tup (pa_cons pe_str (pa_cons (pv 8) (pa_cons (pv 7) pa_nil)))) pa_nil)))
    (pss_cons (ps_set (i := 10) sc_law_rows.nd rfl (Or.inl rfl) (pe_call G__law_rows (hr.mono (by omega)) rfl T.m__law_rows T.F__law_rows.kp T.b__law_rows .nil pass0 (pa_cons (pv 0) (pa_cons (pv 1) (pa_cons (pe_op op_add (pv 2) pe_int) (pa_cons (pe_op op_fdivW (pe_op op_sub (pv 5) pe_int) pe_int) pa_nil))))))
    (pss_cons (ps_set (i := 11) sc_law_rows.nd rfl (Or.inl rfl) (pe_call G__law_rows (hr.mono (by omega)) rfl T.m__law_rows T.F__law_rows.kp T.b__law_rows .nil pass0 (pa_cons (pv 0) (pa_cons (pv 1) (pa_cons (pe_op op_add (pv 2) pe_int) (pa_cons (pe_op op_fdivW (pe_op op_sub (pv 5) pe_int) pe_int) pa_nil))))))
    (pss_cons (ps_expr (pe_bm PySem.F.plainAttrs_list PySem.F.slot_list_append PySem.F.type_list_append mt_append (pv 4) (pa_cons (pe_tup (pa_cons pe_str (pa_cons (pv 7) (pa_cons (pv 9) (pa_cons (pv 10) (pa_cons (pv 11) pa_nil)))))) pa_nil)))
    (pss_one (ps_set (i := 5) sc_law_rows.nd rfl (Or.inl rfl) (pe_op op_sub (pe_op op_sub (pe_op op_sub (pv 5) pe_int) (pe_call G__law_many (hr.mono (by omega)) rfl T.m__law_many T.F__law_many.kp T.b__law_many .nil pass0 (pa_cons (pv 10) pa_nil))) (pe_call G__law_many (hr.mono (by omega)) rfl T.m__law_many T.F__law_many.kp T.b__law_many .nil pass0 (pa_cons (pv 11) pa_nil)))))))))))) (pss_one (ps_if (pt_cmpR op_ge (pv 5) pe_int (nomark _)) (pss_cons (ps_expr (pe_bm PySem.F.plainAttrs_list PySem.F.slot_list_append PySem.F.type_list_append mt_append (pv 4) (pa_cons (pe_call G__law_row (hr.mono (by omega)) rfl T.m__law_row T.F__law_row.kp T.b__law_row .nil pass0 (pa_cons (pv 0) (pa_cons (pv 1) pa_nil))) pa_nil)))
    (pss_one (ps_set (i := 5) sc_law_rows.nd rfl (Or.inl rfl) (pe_op op_sub (pv 5) pe_int)))) pss_nil)))))
    (pss_one (ps_ret (pe_callTy call_tuple_of rfl T.z_tuple (by decide +kernel) (pa_cons (pv 4) pa_nil))))))), ?_⟩
  refine ⟨Nat.zero_le _, fun p hp => ?_⟩
  obtain ⟨nps, npc⟩ := ok.ne hp
  have ok0 : StOk (upd H p (.lst [])) st sc := ok.new hp
  have kp0 : Keep st H (upd H p (.lst [])) := Keep.new hp
  refine ⟨_, rfl, _, rfl, st, sc, 4, rfl, by decide, by decide, ok0, fun tn H1 t0 t1 k1 o1 _ => ⟨_, _, rfl, rfl, _, rfl, by omega, by omega, ?_⟩⟩
  have kH1 : Keep st H H1 := kp0.trans k1
  have hpH1 : H1 p = some (.lst []) := k1 _ _ nps upd_same
  refine for_range (lo := 0) (n := (1 + tn).toNat) (fun i σ H' => ∃ (left : Int) (v6 v7 v8 v9 v10 v11 : Option V) (xs : List V) (rs : List Td.Row),
    σ = [some (.ref st), some (.ref d), some (.int (dep : Nat)), some (.int room), some (.ref p), some (.int left), v6, v7, v8, v9, v10, v11] ∧
    Keep st H H' ∧ StOk H' st sc ∧ H' p = some (.lst xs) ∧ TnAll K H' xs (rowsD rs) ∧ okRs S dep rs ∧ (cnts rs : Int) + left ≤ room ∧ 0 ≤ left)
    ⟨room, none, none, none, none, none, none, [], [], rfl, kH1, o1, hpH1, by unfold rowsD; exact .nil, by unfold okRs; trivial, by simp [cnts], hr0⟩ ?_ ?_
  · rintro i σ H2 hi ⟨left, v6, v7, v8, v9, v10, v11, xs, rs, rfl, kH, oH, hpH, hT, hok, hcnt, hl0⟩
    have hlen : ∀ ys : List V, TnAll K H2 ys (rowsD rs) → ys.length ≤ 100 := fun ys h => by
      have e := h.length
      rw [rowsD_length] at e
      have := cnts_len rs
      omega
    -- append a row's tuple
    have app : ∀ {H3 : Hp} {v : V} {r : Td.Row} {ys : List V} {ts : List Td.Row}, Keep st H H3 → StOk H3 st sc → H3 p = some (.lst ys) → TnAll K H3 ys (rowsD ts) → okRs S dep ts → Tn K H3 v (rowD r) → okR S dep r →
        Keep st H (upd H3 p (.lst (ys ++ [v]))) ∧ StOk (upd H3 p (.lst (ys ++ [v]))) st sc ∧ TnAll K (upd H3 p (.lst (ys ++ [v]))) (ys ++ [v]) (rowsD (ts ++ [r])) ∧ okRs S dep (ts ++ [r]) ∧ cnts (ts ++ [r]) = cnts ts + Td.cnt r ∧ TK H3 (upd H3 p (.lst (ys ++ [v]))) := by
      intro H3 v r ys ts k3 o3 hp3 t3 okt tv okr
      have tk : TK H3 (upd H3 p (.lst (ys ++ [v]))) := TK.upd (by rw [hp3]; trivial)
      refine ⟨k3.own (ok.ne hp |>.1 |> fun _ => hp), o3.other nps npc, ?_, okRs_append okt (okRs_one okr), ?_, tk⟩
      · rw [rowsD_append, rowsD_one]
        exact TnAll.append (TnAll.keep tk t3) (TnAll.one (Tn.keep tk tv))
      · rw [cnts_append, cnts_one]
    have chg : ∀ {H3 : Hp}, StOk H3 st sc → Chg (H3 st) := fun o => by obtain ⟨L, hL⟩ := o.at; rw [hL]; trivial
    refine ⟨fun H3 => Keep st H2 H3 ∧ StOk H3 st sc, ?_, ?_⟩
    · refine ⟨_, rfl, _, _, rfl, rfl, _, rfl, ?_⟩
      refine ite2 (fun c1 => ?_) (fun _ => iteF ⟨Keep.refl _ _, oH⟩)
      have c1' : 2 ≤ left := of_decide_eq_true c1
      refine ⟨_, rfl, _, _, rfl, rfl, _, rfl, ?_⟩
      refine ite2 (fun c2 => ?_) (fun _ => iteF ⟨Keep.refl _ _, oH⟩)
      have c2' : ((dep : Nat) : Int) < 4 := of_decide_eq_true c2
      refine ⟨_, rfl, st, sc, 3, rfl, by decide, by decide, oH, fun x3 H3 x30 x31 k3 o3 _ => ⟨rfl, _, rfl, ?_⟩⟩
      refine ite2 (fun _ => ?_) (fun _ => ⟨k3, o3⟩)
      have sh3 := sh.keep (kH.trans k3)
      obtain ⟨kvs, aw, asl, ac, aso, pk, wr, e0, e00, e1, e2, e3, e4, e5, e6, e7, e8, e9, e10, e11, e12, e13, e14, e15, e16, e17⟩ := sh3.ex
      refine pick_l (key := "slots") rfl rfl e0 sh3.ne e4 e5 e6 sh3.s0 sh3.small.2.1 o3 fun sl hsl H4 k4 o4 => ?_
      have hsl' := sh3.good sl hsl
      have sh4 := sh3.keep k4
      obtain ⟨kvs, aw, asl, ac, aso, pk, wr, e0, e00, e1, e2, e3, e4, e5, e6, e7, e8, e9, e10, e11, e12, e13, e14, e15, e16, e17⟩ := sh4.ex
      refine pick_l (key := "cells") rfl rfl e0 sh4.ne e7 e8 e9 sh4.c0 sh4.small.2.2.1 o4 fun ce hce H5 k5 o5 => ?_
      have sh5 := sh4.keep k5
      obtain ⟨kvs, aw, asl, ac, aso, pk, wr, e0, e00, e1, e2, e3, e4, e5, e6, e7, e8, e9, e10, e11, e12, e13, e14, e15, e16, e17⟩ := sh5.ex
      refine pick_t (key := "words") rfl rfl e0 sh5.ne e1 e2 e3 sh5.w0 sh5.small.1 o5 fun wd hwd H6 k6 o6 => ?_
      have k26 : Keep st H2 H6 := k3.trans (k4.trans (k5.trans k6))
      have hp6 := k26 _ _ nps hpH
      have cst : Chg (H2 st) := by obtain ⟨L, hL⟩ := oH.at; rw [hL]; trivial
      have tk26 : TK H2 H6 := TK.of_keep k26 cst
      have t6 := TnAll.keep tk26 hT
      have hx100 := hlen xs hT
      -- append ("read", cell, slot)
      refine ⟨_, rfl, .inl ⟨rfl, _, SqL.of hp6⟩, _, rfl, _, rfl, by show 3 ≤ sizeLine; decide, fun t1 ht1 => ?_⟩
      have npt : p ≠ t1 := fun e => by rw [e, ht1] at hp6; cases hp6
      have hp7 : upd H6 t1 (.tup [.str "read", .str ce, .str sl]) p = some (.lst xs) := by rw [upd_ne npt]; exact hp6
      refine ⟨p, _, _, rfl, rfl, hp7, small1000 (by omega), ?_⟩
      have k7 : Keep st H (upd H6 t1 (.tup [.str "read", .str ce, .str sl])) := (kH.trans k26).trans (Keep.new ht1)
      obtain ⟨k8, o8, t8, ok8, c8, tk8⟩ := app (r := .rd false ce sl) k7 (o6.new ht1) hp7
        (TnAll.keep (TK.of_same (Same.new ht1 _)) t6) hok (by unfold rowD; exact Tn.new (TnAll.strs ["read", ce, sl]) ht1) (by unfold okR; exact ⟨(fun h => nomatch h), hce, hsl'⟩)
      have h8p : upd (upd H6 t1 (.tup [.str "read", .str ce, .str sl])) p (.lst (xs ++ [.ref t1])) p = some (.lst (xs ++ [.ref t1])) := upd_same
      show tSeq _ _ _ _ (upd (upd H6 t1 (.tup [.str "read", .str ce, .str sl])) p (.lst (xs ++ [.ref t1])))
      generalize upd (upd H6 t1 (.tup [.str "read", .str ce, .str sl])) p (.lst (xs ++ [.ref t1])) = H8 at k8 o8 t8 h8p
      -- yes, no
      refine ⟨_, rfl, _, rfl, _, rfl, _, _, rfl, rfl, _, rfl, _, _, rfl, rfl, _, _, rfl, rfl, wide_div (b := 64) (by decide) (by decide) (by decide) (by decide), ?_⟩
      refine ⟨st, sc, d, S, slots, dep + 1, _, rfl, o8, sh.keep k8, by omega, by omega, by omega, by omega, fun vy y H9 k9 o9 oky cy ty => ?_⟩
      refine ⟨_, rfl, _, rfl, _, rfl, _, _, rfl, rfl, _, rfl, _, _, rfl, rfl, _, _, rfl, rfl, wide_div (b := 64) (by decide) (by decide) (by decide) (by decide), ?_⟩
      refine ⟨st, sc, d, S, slots, dep + 1, _, rfl, o9, sh.keep (k8.trans k9), by omega, by omega, by omega, by omega, fun vn y' H10 k10 o10 okn cn tn' => ?_⟩
      have h10p := k10 _ _ nps (k9 _ _ nps h8p)
      have tk810 : TK H8 H10 := (TK.of_keep k9 (chg o8)).trans (TK.of_keep k10 (chg o9))
      have ty10 := Tn.keep (TK.of_keep k10 (chg o9)) ty
      -- append ("if", slot, word, yes, no)
      refine ⟨_, rfl, .inl ⟨rfl, _, SqL.of h10p⟩, _, rfl, _, rfl, _, rfl, _, rfl, by show 5 ≤ sizeLine; decide, fun t2 ht2 => ?_⟩
      have npt2 : p ≠ t2 := fun e => by rw [e, ht2] at h10p; cases h10p
      have tup2 : Tn K (upd H10 t2 (.tup [.str "if", .str sl, .str wd, vy, vn])) (.ref t2) (rowD (.ite sl wd y y')) := by
        unfold rowD
        exact Tn.new (.cons (.str _) (.cons (.str _) (.cons (.str _) (.cons ty10 (.cons tn' .nil))))) ht2
      have h11p : upd H10 t2 (.tup [.str "if", .str sl, .str wd, vy, vn]) p = some (.lst (xs ++ [.ref t1])) := by rw [upd_ne npt2]; exact h10p
      refine ⟨p, _, _, rfl, rfl, h11p, small1000 (by rw [List.length_append]; show xs.length + 1 ≤ 1000; omega), ?_⟩
      have k11 : Keep st H (upd H10 t2 (.tup [.str "if", .str sl, .str wd, vy, vn])) := ((k8.trans k9).trans k10).trans (Keep.new ht2)
      have tk11 : TK H10 (upd H10 t2 (.tup [.str "if", .str sl, .str wd, vy, vn])) := TK.of_same (Same.new ht2 _)
      obtain ⟨k12, o12, t12, ok12, c12, tk12⟩ := app k11 (o10.new ht2) h11p (TnAll.keep (tk810.trans tk11) t8) ok8 tup2 (by unfold okR; exact ⟨by omega, hsl', hwd, oky, okn⟩)
      have ec : Td.cnt (.ite sl wd y y') = 1 + cnts y + cnts y' := by unfold Td.cnt; rfl
      have er : Td.cnt (.rd false ce sl) = 1 := rfl
      have ty12 := Tn.keep (tk11.trans tk12) ty10
      have tn12 := Tn.keep (tk11.trans tk12) tn'
      refine ⟨_, rfl, _, _, rfl, rfl, _, rfl, vy, y, S, dep + 1, rfl, ty12.dp, oky, by omega, by omega, _, _, rfl, rfl, _, rfl, vn, y', S, dep + 1, rfl, tn12.dp, okn, by omega, by omega, _, _, rfl, rfl, ?_⟩
      exact ⟨_, _, _, _, _, _, _, _, _, rfl, k12, o12, upd_same, t12, ok12, by rw [c12, c8, ec, er]; omega, by omega⟩
    · rintro H3 ⟨k3, o3⟩
      refine ⟨_, rfl, _, _, rfl, rfl, _, rfl, ?_⟩
      refine ite2 (fun c1 => ?_) (fun _ => ?_)
      · have c1' : 1 ≤ left := of_decide_eq_true c1
        have hp3 := k3 _ _ nps hpH
        have cst : Chg (H2 st) := by obtain ⟨L, hL⟩ := oH.at; rw [hL]; trivial
        have t3 := TnAll.keep (TK.of_keep k3 cst) hT
        have hx100 := hlen xs hT
        refine ⟨_, rfl, .inl ⟨rfl, _, SqL.of hp3⟩, _, rfl, _, rfl, st, sc, d, S, slots, rfl, o3, sh.keep (kH.trans k3), fun v r H4 k4 o4 okr hir tv => ?_⟩
        have hp4 := k4 _ _ nps hp3
        refine ⟨p, _, _, rfl, rfl, hp4, small1000 (by omega), ?_⟩
        refine ⟨_, rfl, _, _, rfl, rfl, ?_⟩
        have cst3 : Chg (H3 st) := by obtain ⟨L, hL⟩ := o3.at; rw [hL]; trivial
        obtain ⟨k5, o5, t5, ok5, c5, tk5⟩ := app ((kH.trans k3).trans k4) o4 hp4 (TnAll.keep (TK.of_keep k4 cst3) t3) hok tv (okr dep)
        have e1 := cnt_flat hir
        exact ⟨_, _, v7, v8, v9, v10, v11, _, _, rfl, k5, o5, upd_same, t5, ok5, by rw [c5, e1]; omega, by omega⟩
      · exact ⟨left, _, v7, v8, v9, v10, v11, xs, rs, rfl, kH.trans k3, o3, k3 _ _ nps hpH, TnAll.keep (TK.of_keep k3 (chg oH)) hT, hok, hcnt, hl0⟩
  · rintro σ H2 ⟨left, v6, v7, v8, v9, v10, v11, xs, rs, rfl, kH, oH, hpH, hT, hok, hcnt, hl0⟩
    refine ⟨_, rfl, p, _, rfl, .inl ⟨SqL.of hpH, fun t ht => ?_⟩⟩
    exact q _ rs _ (kH.trans (Keep.new ht)) (oH.new ht) hok (by omega) (Tn.new hT ht)
theorem ok_rows (T : Tops w K mg)
    (G1 : FnOk P w K mg base CX0 1 T.a__law_draw T.d__law_draw ["_law_state_here", "_law_many_here"] spDraw)
    (G2 : FnOk P w K mg base CX0 2 T.a__law_row T.d__law_row ["_law_state_here", "_law_shape"] (spRow K))
    (G3 : FnOk P w K mg base CX0 5 T.a__law_many T.d__law_many ["_law_rows_here"] (spMany K 5)) :
    ∀ k, FnOk P w K mg base CX0 (k + 5) T.a__law_rows T.d__law_rows ["_law_state_here", "_law_shape", "_law_depth", "_law_room"] (spRows K k)
  | 0 => by
    have no : ∀ vs H Q E, ¬ spRows K 0 vs H Q E := fun vs H Q E h => by
      obtain ⟨_, _, _, _, _, dep, _, _, _, _, h1, h2, _⟩ := h
      omega
    exact ⟨fun vs H Q E h => absurd h (no vs H Q E), fun A outer s H args us vs Q E _ _ _ _ h => absurd h (no vs H Q E)⟩
  | k + 1 => ok_rows1 T (n := k + 5) (by omega) G1 G2 G3 (ok_rows T G1 G2 G3 k)
end
end K77
namespace K77
open PySem PySem.Spec PyProof.Rows L2 Td
def spParts (K : PySem.W.Frag) : Sp := fun vs H Q _ => ∃ (st sc z : Addr) (a0 a1 a2 a3 a4 : Int) (pk wr : Bool),
  vs = [.ref st, .ref z, .bl pk, .bl wr] ∧ StOk H st sc ∧ SqT K H z [.int a0, .int a1, .int a2, .int a3, .int a4] ∧ z ≠ st ∧
  1 ≤ a0 ∧ a0 ≤ 3 ∧ 1 ≤ a1 ∧ a1 ≤ 4 ∧ 0 ≤ a2 ∧ a2 ≤ 6 ∧ 0 ≤ a3 ∧ a3 ≤ 4 ∧ 0 ≤ a4 ∧ a4 ≤ 15 ∧
  ∀ (v : V) (pp : PP) (H' : Hp), Keep st H H' → StOk H' st sc → pp.Ok (a4.toNat + 1) → (pp.sources.length : Int) ≤ a1 → DataX K H' v pp.words pp.sources (pairsD pp.derived) (pairsD pp.effects) → Q v H'
/-- what stands while the bodies are drawn -/
structure PSt (K : PySem.W.Frag) (H0 H : Hp) (st sc aw pN p2 p4 pd pD : Addr) (ws srcs slots ns : List Str) (kd pk wr : V) (rd : List Str) (xs : List V) (ds : List (Str × List Td.Row)) : Prop where
  kp : Keep st H0 H
  ok : StOk H st sc
  wA : SqT K H aw (ws.map V.str)
  sA : FzT H p4 (srcs.map V.str)
  nA : H pN = some (.lst (ns.map V.str))
  lA : H p2 = some (.lst (slots.map V.str))
  dA : ∃ pc, H pd = some (.dK (shp7 kd (.ref pc) (.ref p4) (.ref p2) (.ref aw) pk wr)) ∧ H pc = some (.lst (rd.map V.str)) ∧ pc ≠ st ∧ pc ≠ pD
  xA : H pD = some (.lst xs)
  tA : TnAll K H xs (ds.map Td.pairD)
structure PNe (H0 : Hp) (st sc aw pN p2 p4 pd pD : Addr) : Prop where
  naw : aw ≠ st
  npN : pN ≠ st
  np2 : p2 ≠ st
  np4 : p4 ≠ st
  npd : pd ≠ st
  npD : pD ≠ st
  ndc : pd ≠ sc
  nDc : pD ≠ sc
  d0 : H0 pd = none
  D0 : H0 pD = none
  nN : pN ≠ pD
  n2 : p2 ≠ pD
section
variable {K : PySem.W.Frag} {H0 H H' : Hp} {st sc aw pN p2 p4 pd pD : Addr} {ws srcs slots ns : List Str} {kd pk wr : V} {rd : List Str} {xs : List V} {ds : List (Str × List Td.Row)}
theorem StOk.chg (h : StOk H st sc) : Chg (H st) := by
  obtain ⟨L, hL⟩ := h.at
  rw [hL]; trivial
theorem PSt.keep (h : PSt K H0 H st sc aw pN p2 p4 pd pD ws srcs slots ns kd pk wr rd xs ds) (n : PNe H0 st sc aw pN p2 p4 pd pD) (k : Keep st H H') (o : StOk H' st sc) :
    PSt K H0 H' st sc aw pN p2 p4 pd pD ws srcs slots ns kd pk wr rd xs ds := by
  obtain ⟨pc, d1, d2, d3, d4⟩ := h.dA
  exact ⟨h.kp.trans k, o, SqT.keep k n.naw h.wA, FzT.keep k n.np4 h.sA, k _ _ n.npN h.nA, k _ _ n.np2 h.lA, ⟨pc, k _ _ n.npd d1, k _ _ d3 d2, d3, d4⟩, k _ _ n.npD h.xA,
    TnAll.keep (TK.of_keep k h.ok.chg) h.tA⟩
theorem PSt.new {p : Addr} {o : HO} (h : PSt K H0 H st sc aw pN p2 p4 pd pD ws srcs slots ns kd pk wr rd xs ds) (n : PNe H0 st sc aw pN p2 p4 pd pD) (hp : H p = none) :
    PSt K H0 (upd H p o) st sc aw pN p2 p4 pd pD ws srcs slots ns kd pk wr rd xs ds := h.keep n (Keep.new hp) (h.ok.new hp)
theorem PSt.shape {eff p r : Bool} (h : PSt K H0 H st sc aw pN p2 p4 pd pD ws srcs slots ns (.str (if eff then "effects" else "derived")) (.bl p) (.bl r) rd xs ds) (n : PNe H0 st sc aw pN p2 p4 pd pD)
    (hp : p = true → eff = true) (hr : r = true → eff = true) (w0 : ws ≠ []) (s0 : slots ≠ []) (c0 : rd ≠ []) (o0 : srcs ≠ []) (sm : ws.length ≤ 100 ∧ slots.length ≤ 100 ∧ rd.length ≤ 100 ∧ srcs.length ≤ 100) (g : ∀ z ∈ slots, isNm z = true) :
    ShapeAt K st H pd ⟨eff, ws, srcs, rd⟩ slots := by
  obtain ⟨pc, d1, d2, d3, d4⟩ := h.dA
  exact ⟨⟨_, aw, p2, pc, p4, p, r, d1, by show 7 ≤ 100; decide, get_words .., h.wA, n.naw, get_slots .., SqL.of h.lA, n.np2, get_cells .., SqL.of d2, d3, get_sources .., h.sA.sq, n.np4, get_kind .., get_peeks .., get_writes .., hp, hr⟩, n.npd, w0, s0, c0, o0, sm, g⟩
theorem PSt.app {v : V} {q : Str × List Td.Row} (h : PSt K H0 H st sc aw pN p2 p4 pd pD ws srcs slots ns kd pk wr rd xs ds) (n : PNe H0 st sc aw pN p2 p4 pd pD) (tv : Tn K H v (Td.pairD q)) :
    PSt K H0 (upd H pD (.lst (xs ++ [v]))) st sc aw pN p2 p4 pd pD ws srcs slots ns kd pk wr rd (xs ++ [v]) (ds ++ [q]) := by
  obtain ⟨pc, d1, d2, d3, d4⟩ := h.dA
  have tk : TK H (upd H pD (.lst (xs ++ [v]))) := TK.upd (by rw [h.xA]; trivial)
  have ne1 : pd ≠ pD := ne_of d1 h.xA (by intro e; cases e)
  refine ⟨h.kp.own n.D0, h.ok.other n.npD n.nDc, SqT.tk tk h.wA, FzT.tk tk h.sA, by rw [upd_ne n.nN]; exact h.nA, by rw [upd_ne n.n2]; exact h.lA,
    ⟨pc, by rw [upd_ne ne1]; exact d1, by rw [upd_ne d4]; exact d2, d3, d4⟩, upd_same, ?_⟩
  rw [List.map_append]
  exact TnAll.append (TnAll.keep tk h.tA) (TnAll.one (Tn.keep tk tv))
/-- the dict is changed -/
theorem PSt.put {kd' pk' wr' : V} {rd' : List Str} {pc' : Addr} (h : PSt K H0 H st sc aw pN p2 p4 pd pD ws srcs slots ns kd pk wr rd xs ds) (n : PNe H0 st sc aw pN p2 p4 pd pD)
    (hc : H pc' = some (.lst (rd'.map V.str))) (h1 : pc' ≠ st) (h2 : pc' ≠ pD) :
    PSt K H0 (upd H pd (.dK (shp7 kd' (.ref pc') (.ref p4) (.ref p2) (.ref aw) pk' wr'))) st sc aw pN p2 p4 pd pD ws srcs slots ns kd' pk' wr' rd' xs ds := by
  obtain ⟨pc, d1, d2, d3, d4⟩ := h.dA
  have tk : TK H (upd H pd (.dK (shp7 kd' (.ref pc') (.ref p4) (.ref p2) (.ref aw) pk' wr'))) := TK.upd (by rw [d1]; trivial)
  exact ⟨h.kp.own n.d0, h.ok.other n.npd n.ndc, SqT.tk tk h.wA, FzT.tk tk h.sA, by rw [upd_ne (ne_of h.nA d1 (by intro e; cases e))]; exact h.nA, by rw [upd_ne (ne_of h.lA d1 (by intro e; cases e))]; exact h.lA,
    ⟨pc', upd_same, by rw [upd_ne (ne_of hc d1 (by intro e; cases e))]; exact hc, h1, h2⟩, by rw [upd_ne (ne_of h.xA d1 (by intro e; cases e))]; exact h.xA, TnAll.keep tk h.tA⟩
end
section
variable {P : Program} {w : World} {K : PySem.W.Frag} {mg : Str → Option Value} {base : Heap}
theorem ok_parts (T : Tops w K mg)
    (G__law_draw : FnOk P w K mg base CX0 1 T.a__law_draw T.d__law_draw ["_law_state_here", "_law_many_here"] spDraw)
    (G__law_names : FnOk P w K mg base CX0 2 T.a__law_names T.d__law_names ["_law_state_here", "_law_many_here"] spNames)
    (G__law_rows : FnOk P w K mg base CX0 10 T.a__law_rows T.d__law_rows ["_law_state_here", "_law_shape", "_law_depth", "_law_room"] (spRows K 5)) :
    FnOk P w K mg base CX0 11 T.a__law_parts T.d__law_parts ["_law_state_here", "_law_sizes", "_law_peeks", "_law_writes"] (spParts K) := by
  refine T.F__law_parts.ok sc_law_parts (fun vs H Q E h => ?_) (fun cdv A outer s H vs Q E hr h => ?_)
  · obtain ⟨st, sc, z, a0, a1, a2, a3, a4, pk, wr, rfl, _⟩ := h
    rfl
  obtain ⟨st, sc, z, a0, a1, a2, a3, a4, pk, wr, rfl, ok, hz, nz, a00, a01, a10, a11, a20, a21, a30, a31, a40, a41, q⟩ := h
  refine ⟨_, (pss_cons (ps_set (i := 4) sc_law_parts.nd rfl (Or.inl rfl) (pe_op op_add pe_int (pe_call G__law_draw (hr.mono (by omega)) rfl T.m__law_draw T.F__law_draw.kp T.b__law_draw .nil pass0 (pa_cons (pv 0) (pa_cons (pe_ix ix_tup (pv 1) pe_int (fun _ _ => rfl)) pa_nil)))))
    (pss_cons (ps_set (i := 5) sc_law_parts.nd rfl (Or.inl rfl) (pe_op op_add pe_int (pe_call G__law_draw (hr.mono (by omega)) rfl T.m__law_draw T.F__law_draw.kp T.b__law_draw .nil pass0 (pa_cons (pv 0) (pa_cons (pe_ix ix_tup (pv 1) pe_int (fun _ _ => rfl)) pa_nil)))))
    (pss_cons (ps_set (i := 6) sc_law_parts.nd rfl (Or.inl rfl) (pe_callB (call_max2 rfl) rfl T.z_max (by decide +kernel) (pa_cons (pe_call G__law_draw (hr.mono (by omega)) rfl T.m__law_draw T.F__law_draw.kp T.b__law_draw .nil pass0 (pa_cons (pv 0) (pa_cons (pe_op op_add (pe_ix ix_tup (pv 1) pe_int (fun _ _ => rfl)) pe_int) pa_nil))) (pa_cons (pe_call G__law_draw (hr.mono (by omega)) rfl T.m__law_draw T.F__law_draw.kp T.b__law_draw .nil pass0 (pa_cons (pv 0) (pa_cons (pe_op op_add (pe_ix ix_tup (pv 1) pe_int (fun _ _ => rfl)) pe_int) pa_nil))) pa_nil))))
    (pss_cons (ps_set (i := 7) sc_law_parts.nd rfl (Or.inl rfl) (pe_callB (call_max2 rfl) rfl T.z_max (by decide +kernel) (pa_cons (pe_call G__law_draw (hr.mono (by omega)) rfl T.m__law_draw T.F__law_draw.kp T.b__law_draw .nil pass0 (pa_cons (pv 0) (pa_cons (pe_op op_add (pe_ix ix_tup (pv 1) pe_int (fun _ _ => rfl)) pe_int) pa_nil))) (pa_cons (pe_call G__law_draw (hr.mono (by omega)) rfl T.m__law_draw T.F__law_draw.kp T.b__law_draw .nil pass0 (pa_cons (pv 0) (pa_cons (pe_op op_add (pe_ix ix_tup (pv 1) pe_int (fun _ _ => rfl)) pe_int) pa_nil))) pa_nil))))
    (pss_cons (ps_set (i := 8) sc_law_parts.nd rfl (Or.inl rfl) (pe_callTy call_tuple_of rfl T.z_tuple (by decide +kernel) (pa_cons (pe_call G__law_names (hr.mono (by omega)) rfl T.m__law_names T.F__law_names.kp T.b__law_names .nil pass0 (pa_cons (pv 0) (pa_cons (pv 4) pa_nil))) pa_nil)))
    (pss_cons (ps_set (i := 9) sc_law_parts.nd rfl (Or.inl rfl) (pe_call G__law_names (hr.mono (by omega)) rfl T.m__law_names T.F__law_names.kp T.b__law_names .nil pass0 (pa_cons (pv 0) (pa_cons (pe_op op_add (pe_op op_add (pv 5) (pv 6)) (pv 7)) pa_nil))))
    (C8.pss_cut (ps_if (PW.pt (pw_and (pt_cmpR op_eq (pe_call G__law_draw (hr.mono (by omega)) rfl T.m__law_draw T.F__law_draw.kp T.b__law_draw .nil pass0 (pa_cons (pv 0) (pa_cons pe_int pa_nil))) pe_int (nomark _)) (pw_and1 (pt_cmpR op_notIn_seq (pe_ix ix_list (pv 9) pe_int (fun _ _ => rfl)) (pv 8) (by rfl))))) (pss_one (ps_set (i := 8) sc_law_parts.nd rfl (Or.inl rfl) (pe_op op_catA (pe_slice sl_tupA (pv 8) (po_some pe_int) po_none) (pe_tup (pa_cons (pe_ix ix_list (pv 9) pe_int (fun _ _ => rfl)) pa_nil))))) pss_nil)
    (pss_cons (ps_set (i := 10) sc_law_parts.nd rfl (Or.inl rfl) (pe_op op_cat (pe_call G__law_names (hr.mono (by omega)) rfl T.m__law_names T.F__law_names.kp T.b__law_names .nil pass0 (pa_cons (pv 0) (pa_cons pe_int pa_nil))) (pe_lst (pa_cons (pe_ix ix_list (pv 9) pe_int (fun _ _ => rfl)) pa_nil))))
    (pss_cons (ps_set (i := 11) sc_law_parts.nd rfl (Or.inl rfl) (pe_callTy (T := "tuple") call_tuple_ofF rfl T.z_tuple (by decide +kernel) (pa_cons (pe_slice sl_list (pv 9) po_none (po_some (pv 5))) pa_nil)))
    (pss_cons (ps_set (i := 12) sc_law_parts.nd rfl (Or.inl rfl) (pe_disp (pps_cons pe_str pe_str (pps_cons pe_str (pe_callTy call_list_of rfl T.z_list (by decide +kernel) (pa_cons (pv 11) pa_nil)) (pps_cons pe_str (pv 11) (pps_cons pe_str (pv 10) (pps_cons pe_str (pv 8) pps_nil))))) (by rfl) (by rfl) (fun z => by cases z) (by decide)))
    (pss_cons (ps_dput (hu_of hr) (pv 12) pe_str pe_bl rfl)
    (pss_cons (ps_dput (hu_of hr) (pv 12) pe_str pe_bl rfl)
    (pss_cons (ps_set (i := 13) sc_law_parts.nd rfl (Or.inl rfl) (pe_lst pa_nil))
    (pss_cons (ps_for PassesOwn.never rfl (pi_range1 rfl T.z_range (pa_cons (pv 6) pa_nil)) (pg_name (i := 14) sc_law_parts.nd rfl (Or.inl rfl)) (pss_cons (ps_set (i := 15) sc_law_parts.nd rfl (Or.inl rfl) (pe_ix ix_list (pv 9) (pe_op op_add (pv 5) (pv 14)) (fun _ _ => rfl)))
    (pss_cons (ps_set (i := 16) sc_law_parts.nd rfl (Or.inl rfl) (pe_call G__law_rows (hr.mono (by omega)) rfl T.m__law_rows T.F__law_rows.kp T.b__law_rows .nil pass0 (pa_cons (pv 0) (pa_cons (pv 12) (pa_cons pe_int (pa_cons (pe_ix ix_tup (pv 1) pe_int (fun _ _ => rfl)) pa_nil))))))
    (C8.pss_cut (ps_if (pt_cmpR op_gt (pe_call G__law_draw (hr.mono (by omega)) rfl T.m__law_draw T.F__law_draw.kp T.b__law_draw .nil pass0 (pa_cons (pv 0) (pa_cons pe_int pa_nil))) pe_int (nomark _)) (pss_one (ps_set (i := 16) sc_law_parts.nd rfl (Or.inl rfl) (pe_op op_catA (pv 16) (pe_tup (pa_cons (pe_tup (pa_cons pe_str (pa_cons (pe_ix ix_list (pv 10) (pe_call G__law_draw (hr.mono (by omega)) rfl T.m__law_draw T.F__law_draw.kp T.b__law_draw .nil pass0 (pa_cons (pv 0) (pa_cons pe_int pa_nil))) (fun _ _ => rfl)) pa_nil))) pa_nil))))) pss_nil)
    (pss_cons (ps_expr (pe_bm PySem.F.plainAttrs_list PySem.F.slot_list_append PySem.F.type_list_append mt_append (pv 13) (pa_cons (pe_tup (pa_cons (pv 15) (pa_cons (pv 16) pa_nil))) pa_nil)))
    (pss_one (ps_dput (hu_of hr) (pv 12) pe_str (pe_op op_cat (pe_dget (hu_of hr) (pv 12) pe_str (fun _ _ => rfl)) (pe_lst (pa_cons (pv 15) pa_nil))) rfl)))))))
    (pss_cons (ps_dput (hu_of hr) (pv 12) pe_str pe_str rfl)
    (pss_cons (ps_dput (hu_of hr) (pv 12) pe_str (pv 2) rfl)
    (pss_cons (ps_dput (hu_of hr) (pv 12) pe_str (pv 3) rfl)
    (pss_cons (ps_set (i := 17) sc_law_parts.nd rfl (Or.inl rfl) (pe_lst pa_nil))
    (pss_cons (ps_for PassesOwn.never rfl (pi_range1 rfl T.z_range (pa_cons (pv 7) pa_nil)) (pg_name (i := 14) sc_law_parts.nd rfl (Or.inl rfl)) (pss_cons (ps_set (i := 16) sc_law_parts.nd rfl (Or.inl rfl) (pe_call G__law_rows (hr.mono (by omega)) rfl T.m__law_rows T.F__law_rows.kp T.b__law_rows .nil pass0 (pa_cons (pv 0) (pa_cons (pv 12) (pa_cons pe_int (pa_cons (pe_ix ix_tup (pv 1) pe_int (fun _ _ => rfl)) pa_nil))))))
    (C8.pss_cut (ps_if (pt_cmpR op_gt (pe_call G__law_draw (hr.mono (by omega)) rfl T.m__law_draw T.F__law_draw.kp T.b__law_draw .nil pass0 (pa_cons (pv 0) (pa_cons pe_int pa_nil))) pe_int (nomark _)) (pss_one (ps_set (i := 16) sc_law_parts.nd rfl (Or.inl rfl) (pe_op op_catA (pv 16) (pe_tup (pa_cons (pe_tup (pa_cons pe_str (pa_cons (pe_ix ix_list (pv 10) (pe_call G__law_draw (hr.mono (by omega)) rfl T.m__law_draw T.F__law_draw.kp T.b__law_draw .nil pass0 (pa_cons (pv 0) (pa_cons pe_int pa_nil))) (fun _ _ => rfl)) pa_nil))) pa_nil))))) pss_nil)
    (pss_one (ps_expr (pe_bm PySem.F.plainAttrs_list PySem.F.slot_list_append PySem.F.type_list_append mt_append (pv 17) (pa_cons (pe_tup (pa_cons (pe_ix ix_list (pv 9) (pe_op op_add (pe_op op_add (pv 5) (pv 6)) (pv 14)) (fun _ _ => rfl)) (pa_cons (pv 16) pa_nil))) pa_nil)))))))
    (pss_one (ps_ret (pe_tup (pa_cons (pv 8) (pa_cons (pv 11) (pa_cons (pe_callTy call_tuple_of rfl T.z_tuple (by decide +kernel) (pa_cons (pv 13) pa_nil)) (pa_cons (pe_callTy call_tuple_of rfl T.z_tuple (by decide +kernel) (pa_cons (pv 17) pa_nil)) pa_nil)))))))))))))))))))))))))), ?_⟩
  -- the four numbers
  refine ⟨_, rfl, _, rfl, z, _, 0, _, rfl, rfl, hz, rfl, st, sc, _, rfl, by omega, by omega, ok, fun mw H1 mw0 mw1 k1 o1 _ => ⟨_, _, rfl, rfl, ?_⟩⟩
  have z1 := SqT.keep k1 nz hz
  refine ⟨_, rfl, _, rfl, z, _, 1, _, rfl, rfl, z1, rfl, st, sc, _, rfl, by omega, by omega, o1, fun ms H2 ms0 ms1 k2 o2 _ => ⟨_, _, rfl, rfl, ?_⟩⟩
  have z2 := SqT.keep k2 nz z1
  refine ⟨_, rfl, _, rfl, z, _, 2, _, rfl, rfl, z2, rfl, _, _, rfl, rfl, st, sc, _, rfl, by omega, by omega, o2, fun d1 H3 d10 d11 k3 o3 _ => ?_⟩
  have z3 := SqT.keep k3 nz z2
  refine ⟨_, rfl, _, rfl, z, _, 2, _, rfl, rfl, z3, rfl, _, _, rfl, rfl, st, sc, _, rfl, by omega, by omega, o3, fun d2 H4 d20 d21 k4 o4 _ => ⟨_, _, rfl, ?_⟩⟩
  have z4 := SqT.keep k4 nz z3
  have md0 : 0 ≤ (if d2 > d1 then d2 else d1) ∧ (if d2 > d1 then d2 else d1) ≤ a2 := by split <;> omega
  generalize (if d2 > d1 then d2 else d1) = md at md0
  refine ⟨_, rfl, _, rfl, z, _, 3, _, rfl, rfl, z4, rfl, _, _, rfl, rfl, st, sc, _, rfl, by omega, by omega, o4, fun e1 H5 e10 e11 k5 o5 _ => ?_⟩
  have z5 := SqT.keep k5 nz z4
  refine ⟨_, rfl, _, rfl, z, _, 3, _, rfl, rfl, z5, rfl, _, _, rfl, rfl, st, sc, _, rfl, by omega, by omega, o5, fun e2 H6 e20 e21 k6 o6 _ => ⟨_, _, rfl, ?_⟩⟩
  have z6 := SqT.keep k6 nz z5
  have me0 : 0 ≤ (if e2 > e1 then e2 else e1) ∧ (if e2 > e1 then e2 else e1) ≤ a3 := by split <;> omega
  generalize (if e2 > e1 then e2 else e1) = me at me0
  have k06 : Keep st H H6 := k1.trans (k2.trans (k3.trans (k4.trans (k5.trans k6))))
  -- words, names
  refine ⟨_, rfl, _, rfl, st, sc, _, rfl, by omega, by omega, o6, fun pw ws H7 k7 o7 pw0 pws pwc pwL wl wN => ⟨pw, _, rfl, .inl ⟨SqL.of pwL, fun aw haw => ?_⟩⟩⟩
  have o8 : StOk (upd H7 aw (.tup (ws.map V.str))) st sc := o7.new haw
  have k8 : Keep st H (upd H7 aw (.tup (ws.map V.str))) := k06.trans (k7.trans (Keep.new haw))
  have w8 : SqT K (upd H7 aw (.tup (ws.map V.str))) aw (ws.map V.str) := SqT.of upd_same
  obtain ⟨naw, nawc⟩ := o7.ne haw
  show tSeq _ _ _ _ (upd H7 aw (.tup (ws.map V.str)))
  generalize upd H7 aw (.tup (ws.map V.str)) = H8 at o8 k8 w8
  refine ⟨_, rfl, _, rfl, _, rfl, _, _, rfl, rfl, _, rfl, _, _, rfl, rfl, st, sc, _, rfl, by omega, by omega, o8, fun pN ns H9 k9 o9 pN0 pNs pNc pNL nl nN => ?_⟩
  have k09 := k8.trans k9
  have w9 := SqT.keep k9 naw w8
  have z9 := SqT.keep k09 nz hz
  have hn0 : 0 < ns.length := by omega
  have n0at : atI (ns.map V.str) 0 = some (V.str ns[0]) := atI_nat (j := 0) (by rw [List.getElem?_map, List.getElem?_eq_getElem hn0]; rfl)
  -- the words may get the first name
  refine ⟨fun σ' H' => ∃ (aw : Addr) (ws : List Str), σ' = [some (.ref st), some (.ref z), some (.bl pk), some (.bl wr), some (.int (2 + mw)), some (.int (1 + ms)), some (.int md), some (.int me), some (.ref aw), some (.ref pN), none, none, none, none, none, none, none, none] ∧
    Keep st H H' ∧ StOk H' st sc ∧ SqT K H' aw (ws.map V.str) ∧ aw ≠ st ∧ H' pN = some (.lst (ns.map V.str)) ∧ (ws.length : Int) = 2 + mw ∧ Names ws, ?_, ?_⟩
  · refine ⟨_, rfl, st, sc, 4, rfl, by decide, by decide, o9, fun x H10 x0 x1 k10 o10 _ => ⟨rfl, _, rfl, ?_⟩⟩
    have w10 := SqT.keep k10 naw w9
    have L10 := k10 _ _ pNs pNL
    refine ite2 (fun _ => ?_) (fun _ => ⟨aw, ws, rfl, k09.trans k10, o10, w10, naw, L10, wl, wN⟩)
    refine ⟨_, rfl, pN, _, 0, _, rfl, rfl, SqL.of L10, n0at, _, rfl, aw, _, rfl, .inr w10, rfl, ?_, _, rfl, ?_⟩
    · exact L2.flat_strs ws
    refine ite2 (fun c => ?_) (fun _ => ⟨aw, ws, rfl, k09.trans k10, o10, w10, naw, L10, wl, wN⟩)
    have hnot : ns[0] ∉ ws := by
      have c' : (!inV (V.str ns[0]) (ws.map V.str)) = true := c
      rw [inV_strs] at c'
      simpa using c'
    have wsne : ws.map V.str ≠ [] := by
      intro e
      have := congrArg List.length e
      rw [List.length_map, List.length_nil] at this
      omega
    refine ⟨_, rfl, 1, rfl, aw, _, rfl, w10, fun hh => absurd hh (not_whole1 wsne none), fun _ p1 hp1 => ?_⟩
    have pN1 : upd H10 p1 (.tup (cutV (ws.map V.str) (some 1) none)) pN = some (.lst (ns.map V.str)) := by rw [upd_ne (ne_of_none L10 hp1)]; exact L10
    refine ⟨_, rfl, pN, _, 0, _, rfl, rfl, SqL.of pN1, n0at, by show 1 ≤ sizeLine; decide, fun p2 hp2 => ?_⟩
    have n12 : p1 ≠ p2 := fun e => by rw [← e, upd_same] at hp2; cases hp2
    have hp20 : H10 p2 = none := by rw [upd_ne (Ne.symm n12)] at hp2; exact hp2
    have drop_ne : cutV (ws.map V.str) (some 1) none ≠ [] := by
      rw [cut_from1]
      intro e
      have := congrArg List.length e
      rw [List.length_drop, List.length_map, List.length_nil] at this
      omega
    refine ⟨p1, p2, _, _, rfl, rfl, SqT.of (by rw [upd_ne n12, upd_same]), SqT.of upd_same, Nat.le_of_lt (small1000 ?_), fun e => absurd e drop_ne, fun _ e => (by cases e), fun _ _ p3 hp3 => ?_⟩
    · rw [cut_from1, List.length_drop, List.length_map]; show ws.length - 1 + 1 ≤ 1000; omega
    have k13 : Keep st H (upd (upd (upd H10 p1 (.tup (cutV (ws.map V.str) (some 1) none))) p2 (.tup [V.str ns[0]])) p3 (.tup (cutV (ws.map V.str) (some 1) none ++ [V.str ns[0]]))) :=
      (((k09.trans k10).trans (Keep.new hp1)).trans (Keep.new hp2)).trans (Keep.new hp3)
    have o13 := ((o10.new hp1 (o := .tup (cutV (ws.map V.str) (some 1) none))).new hp2 (o := .tup [V.str ns[0]])).new hp3 (o := .tup (cutV (ws.map V.str) (some 1) none ++ [V.str ns[0]]))
    refine ⟨p3, ws.drop 1 ++ [ns[0]], rfl, k13, o13, ?_, (((o10.new hp1).new hp2).ne hp3).1, ?_, ?_, wN.turn (nN.good _ (List.getElem_mem hn0)) hnot⟩
    · rw [cut_from1]
      have e : (ws.drop 1 ++ [ns[0]]).map V.str = (ws.map V.str).drop 1 ++ [V.str ns[0]] := by rw [List.map_append, List.map_drop]; rfl
      rw [e]
      exact SqT.of upd_same
    · rw [upd_ne (ne_of_none (by rw [upd_ne (ne_of_none pN1 hp2)]; exact pN1) hp3), upd_ne (ne_of_none pN1 hp2)]; exact pN1
    · rw [List.length_append, List.length_drop]; show ((ws.length - 1 + 1 : Nat) : Int) = 2 + mw; omega
  · clear wl wN w9 w8 naw nawc haw aw ws pwL pws pw0 pwc
    rintro σ' H11 ⟨aw, ws, rfl, k11, o11, w11, naw, L11, wl, wN⟩
    -- slots
    refine ⟨_, rfl, st, sc, _, rfl, by decide, by decide, o11, fun pS ss H12 k12 o12 pS0 pSs pSc pSL sl sN => ?_⟩
    have L12 := k12 _ _ pNs L11
    refine ⟨_, rfl, pN, _, 0, _, rfl, rfl, SqL.of L12, n0at, by show 1 ≤ sizeLine; decide, fun p1 hp1 => ?_⟩
    refine ⟨pS, p1, _, _, rfl, rfl, by rw [upd_ne (ne_of_none pSL hp1)]; exact pSL, upd_same, Nat.le_of_lt (small1000 (by rw [List.length_map]; show ss.length + 1 ≤ 1000; omega)), fun p2 hp2 => ?_⟩
    have k13 : Keep st H11 (upd (upd H12 p1 (.lst [V.str ns[0]])) p2 (.lst (ss.map V.str ++ [V.str ns[0]]))) := k12.trans ((Keep.new hp1).trans (Keep.new hp2))
    have o13 := (o12.new hp1 (o := .lst [V.str ns[0]])).new hp2 (o := .lst (ss.map V.str ++ [V.str ns[0]]))
    obtain ⟨np2, np2c⟩ := (o12.new hp1 (o := .lst [V.str ns[0]])).ne hp2
    have es : ss.map V.str ++ [V.str ns[0]] = (ss ++ [ns[0]]).map V.str := by rw [List.map_append]; rfl
    have S13 : upd (upd H12 p1 (.lst [V.str ns[0]])) p2 (.lst (ss.map V.str ++ [V.str ns[0]])) p2 = some (.lst ((ss ++ [ns[0]]).map V.str)) := by rw [upd_same, es]
    have slg : ∀ y ∈ ss ++ [ns[0]], isNm y = true := fun y hy => by
      rcases List.mem_append.mp hy with h | h
      · exact sN.good y h
      · rw [List.mem_singleton.mp h]; exact nN.good _ (List.getElem_mem hn0)
    have sln : (ss ++ [ns[0]]).length = 3 := by rw [List.length_append]; show ss.length + 1 = 3; omega
    show tSeq _ _ _ _ (upd (upd H12 p1 (.lst [V.str ns[0]])) p2 (.lst (ss.map V.str ++ [V.str ns[0]])))
    generalize upd (upd H12 p1 (.lst [V.str ns[0]])) p2 (.lst (ss.map V.str ++ [V.str ns[0]])) = H13 at k13 o13 S13
    generalize ss ++ [ns[0]] = slots at S13 slg sln
    -- sources
    have L13 := k13 _ _ pNs L11
    have msn : ((1 + ms).toNat : Nat) ≤ ns.length := by omega
    have ecut : cutV (ns.map V.str) none (some (1 + ms)) = (ns.take (1 + ms).toNat).map V.str := by
      have := cut_to (ns.map V.str) (1 + ms).toNat (by rw [List.length_map]; omega)
      rw [show (((1 + ms).toNat : Nat) : Int) = 1 + ms by omega] at this
      rw [this, List.map_take]
    refine ⟨_, rfl, _, rfl, _, rfl, pN, _, rfl, SqL.of L13, fun p3 hp3 => ⟨p3, _, rfl, SqL.of upd_same, fun o4 p4 od4 hp4 => ?_⟩⟩
    rw [ecut] at hp4 ⊢
    have k14 : Keep st H13 (upd (upd H13 p3 (.lst ((ns.take (1 + ms).toNat).map V.str))) p4 (.frz o4 (.tup ((ns.take (1 + ms).toNat).map V.str)))) := (Keep.new hp3).trans (Keep.new hp4)
    have o14 := (o13.new hp3 (o := .lst ((ns.take (1 + ms).toNat).map V.str))).new hp4 (o := .frz o4 (.tup ((ns.take (1 + ms).toNat).map V.str)))
    have S14 : FzT (upd (upd H13 p3 (.lst ((ns.take (1 + ms).toNat).map V.str))) p4 (.frz o4 (.tup ((ns.take (1 + ms).toNat).map V.str)))) p4 ((ns.take (1 + ms).toNat).map V.str) := ⟨o4, upd_same, od4⟩
    obtain ⟨np4, np4c⟩ := (o13.new hp3 (o := .lst ((ns.take (1 + ms).toNat).map V.str))).ne hp4
    have srl : (ns.take (1 + ms).toNat).length = (1 + ms).toNat := by rw [List.length_take]; omega
    show tSeq _ _ _ _ (upd (upd H13 p3 (.lst ((ns.take (1 + ms).toNat).map V.str))) p4 (.frz o4 (.tup ((ns.take (1 + ms).toNat).map V.str))))
    generalize upd (upd H13 p3 (.lst ((ns.take (1 + ms).toNat).map V.str))) p4 (.frz o4 (.tup ((ns.take (1 + ms).toNat).map V.str))) = H14 at k14 o14 S14
    -- the shape
    refine fun pd hpd => ?_
    obtain ⟨npd, npdc⟩ := o14.ne hpd
    refine ⟨_, rfl, p4, _, rfl, .inr (SqT.same (Same.new hpd _) S14.sq), fun p5 hp5 => ?_⟩
    have np5 : p5 ≠ pd := fun e => by rw [e, upd_same] at hp5; cases hp5
    have hp50 : H14 p5 = none := by rw [upd_ne np5] at hp5; exact hp5
    obtain ⟨np5s, np5c⟩ := o14.ne hp50
    refine ⟨_, rfl, _, rfl, _, rfl, by rw [upd_ne (Ne.symm np5), upd_same], shp (.str "derived") (.ref p5) (.ref p4) (.ref p2) (.ref aw), rfl, by show 5 ≤ 15; decide, ?_⟩
    rw [shp_merge]
    refine ⟨_, rfl, pd, _, rfl, DPut.k (k := Sum.inr "peeks") upd_same (small1000 (by show 5 ≤ 1000; decide)), ?_⟩
    rw [shp_peeks, upd_upd]
    refine ⟨_, rfl, pd, _, rfl, DPut.k (k := Sum.inr "writes") upd_same (small1000 (by show 6 ≤ 1000; decide)), ?_⟩
    rw [shp_writes, upd_upd]
    -- derived = []
    refine ⟨Nat.zero_le _, fun pD hpD => ?_⟩
    generalize hse : ns.take (1 + ms).toNat = srcs at S14 srl hpD hp5 ⊢
    have k1114 := k13.trans k14
    have k1014 := k11.trans k1114
    have d0 : H pd = none := k1014.free npd hpd
    have k15 : Keep st H14 (upd (upd (upd H14 pd (.dK [])) p5 (.lst (srcs.map V.str))) pd (.dK (shp7 (.str "derived") (.ref p5) (.ref p4) (.ref p2) (.ref aw) (.bl false) (.bl false)))) :=
      ((Keep.new hpd).trans (Keep.new hp5)).own hpd
    have o15 : StOk (upd (upd (upd H14 pd (.dK [])) p5 (.lst (srcs.map V.str))) pd (.dK (shp7 (.str "derived") (.ref p5) (.ref p4) (.ref p2) (.ref aw) (.bl false) (.bl false)))) st sc :=
      ((o14.new hpd).new hp5).other npd npdc
    have dd15 : upd (upd (upd H14 pd (.dK [])) p5 (.lst (srcs.map V.str))) pd (.dK (shp7 (.str "derived") (.ref p5) (.ref p4) (.ref p2) (.ref aw) (.bl false) (.bl false))) pd = some (.dK (shp7 (.str "derived") (.ref p5) (.ref p4) (.ref p2) (.ref aw) (.bl false) (.bl false))) := upd_same
    have pc15 : upd (upd (upd H14 pd (.dK [])) p5 (.lst (srcs.map V.str))) pd (.dK (shp7 (.str "derived") (.ref p5) (.ref p4) (.ref p2) (.ref aw) (.bl false) (.bl false))) p5 = some (.lst (srcs.map V.str)) := by rw [upd_ne np5, upd_same]
    generalize upd (upd (upd H14 pd (.dK [])) p5 (.lst (srcs.map V.str))) pd (.dK (shp7 (.str "derived") (.ref p5) (.ref p4) (.ref p2) (.ref aw) (.bl false) (.bl false))) = H15 at k15 o15 dd15 pc15 hpD ⊢
    have k1115 := k1114.trans k15
    have kH15 := k1014.trans k15
    obtain ⟨npD, npDc⟩ := o15.ne hpD
    have D0 : H pD = none := kH15.free npD hpD
    have L15 := k1115 _ _ pNs L11
    have S15 := (k14.trans k15) _ _ np2 S13
    have ne : PNe H st sc aw pN p2 p4 pd pD := ⟨naw, pNs, np2, np4, npd, npD, npdc, npDc, d0, D0, ne_of_none L15 hpD, ne_of_none S15 hpD⟩
    have ps0 : PSt K H (upd H15 pD (.lst [])) st sc aw pN p2 p4 pd pD ws srcs slots ns (.str "derived") (.bl false) (.bl false) srcs [] [] :=
      ⟨kH15.trans (Keep.new hpD), o15.new hpD, SqT.keep (k1115.trans (Keep.new hpD)) naw w11, FzT.keep (k15.trans (Keep.new hpD)) np4 S14, (Keep.new hpD) _ _ pNs L15, (Keep.new hpD) _ _ np2 S15,
        ⟨p5, (Keep.new hpD) _ _ npd dd15, (Keep.new hpD) _ _ np5s pc15, np5s, ne_of_none pc15 hpD⟩, upd_same, .nil⟩
    have w0 : ws ≠ [] := fun e => by rw [e] at wl; simp at wl; omega
    have sl0 : slots ≠ [] := fun e => by rw [e] at sln; simp at sln
    have so0 : srcs ≠ [] := fun e => by rw [e] at srl; simp at srl; omega
    have w100 : ws.length ≤ 100 := by omega
    have sr100 : srcs.length ≤ 100 := by omega
    -- the derived cells
    refine ⟨_, rfl, md, rfl, by omega, by omega, for_range (lo := 0) (n := md.toNat) (fun i σ H' => ∃ (v14 v15 v16 : Option V) (xs : List V) (ds : List (Str × List Td.Row)),
      σ = [some (.ref st), some (.ref z), some (.bl pk), some (.bl wr), some (.int (2 + mw)), some (.int (1 + ms)), some (.int md), some (.int me), some (.ref aw), some (.ref pN), some (.ref p2), some (.ref p4), some (.ref pd), some (.ref pD), v14, v15, v16, none] ∧
      PSt K H H' st sc aw pN p2 p4 pd pD ws srcs slots ns (.str "derived") (.bl false) (.bl false) (srcs ++ ds.map (·.1)) xs ds ∧ ds.length = i ∧ ds.map (·.1) = (ns.drop (1 + ms).toNat).take i ∧ okDer ws srcs (a4.toNat + 1) srcs ds)
      ⟨none, none, none, [], [], rfl, by simpa using ps0, rfl, by simp, by unfold okDer; trivial⟩ ?_ ?_⟩
    · rintro i σ H1 hi ⟨v14, v15, v16, xs, ds, rfl, ps, dl, dn, dok⟩
      have hil : (1 + ms).toNat + i < ns.length := by omega
      have hat : atI (ns.map V.str) (1 + ms + (0 + (i : Int))) = some (V.str ns[(1 + ms).toNat + i]) := by
        have : atI (ns.map V.str) (((1 + ms).toNat + i : Nat) : Int) = some (V.str ns[(1 + ms).toNat + i]) := atI_nat (by rw [List.getElem?_map, List.getElem?_eq_getElem hil]; rfl)
        rwa [show (((1 + ms).toNat + i : Nat) : Int) = 1 + ms + (0 + (i : Int)) by omega] at this
      refine ⟨_, rfl, _, rfl, _, rfl, _, _, rfl, rfl, pN, _, _, _, rfl, rfl, SqL.of ps.nA, hat, ?_⟩
      generalize hnm : ns[(1 + ms).toNat + i] = nm at hat
      have xl : xs.length = ds.length := by rw [ps.tA.length, List.length_map]
      have sh := ps.shape (eff := false) ne (fun h => nomatch h) (fun h => nomatch h) w0 sl0 (by simp [so0]) so0 ⟨w100, by omega, by rw [List.length_append, List.length_map]; omega, sr100⟩ slg
      refine ⟨_, rfl, _, rfl, _, rfl, z, _, 4, _, rfl, rfl, SqT.keep ps.kp nz hz, rfl, st, sc, pd, _, slots, 1, a4, rfl, ps.ok, sh, by decide, by decide, a40, by omega, fun rv rs H2 k2 o2 okr cr tr => ?_⟩
      have ps2 := ps.keep ne k2 o2
      refine ⟨fun σ' H' => ∃ (rv' : V) (rs' : List Td.Row), σ' = [some (.ref st), some (.ref z), some (.bl pk), some (.bl wr), some (.int (2 + mw)), some (.int (1 + ms)), some (.int md), some (.int me), some (.ref aw), some (.ref pN), some (.ref p2), some (.ref p4), some (.ref pd), some (.ref pD), some (.int (0 + (i : Int))), some (.str nm), some rv', none] ∧
        PSt K H H' st sc aw pN p2 p4 pd pD ws srcs slots ns (.str "derived") (.bl false) (.bl false) (srcs ++ ds.map (·.1)) xs ds ∧ okRs ⟨false, ws, srcs, srcs ++ ds.map (·.1)⟩ 1 rs' ∧ Lim false (a4.toNat + 1) rs' ∧ Tn K H' rv' (.tuple (rowsD rs')), ?_, ?_⟩
      · refine ⟨_, rfl, st, sc, 4, rfl, by decide, by decide, o2, fun x H3 x0 x1 k3 o3 _ => ⟨_, _, rfl, rfl, _, rfl, ?_⟩⟩
        have ps3 := ps2.keep ne k3 o3
        have tr3 := Tn.keep (TK.of_keep k3 o2.chg) tr
        refine ite2 (fun _ => ?_) (fun _ => ⟨rv, rs, rfl, ps3, okr, ⟨by omega, rs, [], (List.append_nil rs).symm, by omega, .inl rfl⟩, tr3⟩)
        obtain ⟨ar, ys, rfl, hS3, hT3⟩ := Tn.tup_inv tr3
        have yl : ys.length = rs.length := by rw [hT3.length, rowsD_length]
        have := cnts_len rs
        refine ⟨_, rfl, _, rfl, _, rfl, st, sc, 3, rfl, by decide, by decide, o3, fun y H4 y0 y1 k4 o4 _ => ?_⟩
        have ps4 := ps3.keep ne k4 o4
        obtain ⟨sl, hsl, esl⟩ := pick (xs := slots) y0 (by rw [List.length_map]; omega)
        refine ⟨p2, _, y, _, rfl, rfl, SqL.of ps4.lA, esl, by show 2 ≤ sizeLine; decide, fun t1 ht1 => ⟨by show 1 ≤ sizeLine; decide, fun t2 ht2 => ?_⟩⟩
        have g1 : Tn K (upd H4 t1 (.tup [.str "give", .str sl])) (.ref t1) (rowD (.give sl)) := by unfold rowD; exact Tn.new (TnAll.strs ["give", sl]) ht1
        have g2 := Tn.new (TnAll.one g1) ht2
        have ps5 := (ps4.new ne ht1 (o := .tup [.str "give", .str sl])).new ne ht2 (o := .tup [.ref t1])
        have tkx : TK H3 (upd (upd H4 t1 (.tup [.str "give", .str sl])) t2 (.tup [.ref t1])) := ((TK.of_keep k4 o3.chg).trans (TK.of_same (Same.new ht1 _))).trans (TK.of_same (Same.new ht2 _))
        have okg : okRs ⟨false, ws, srcs, srcs ++ ds.map (·.1)⟩ 1 (rs ++ [Td.Row.give sl]) := okRs_append okr (okRs_one (by unfold okR; exact ⟨rfl, slg sl hsl⟩))
        have cg : Lim false (a4.toNat + 1) (rs ++ [Td.Row.give sl]) := ⟨by rw [cnts_append, cnts_one]; show cnts rs + 1 ≤ _; omega, rs, [.give sl], rfl, by omega, .inr ⟨sl, rfl⟩⟩
        refine ⟨ar, t2, ys, [.ref t1], rfl, rfl, SqT.tk tkx hS3, SqT.of upd_same, Nat.le_of_lt (small1000 (by show ys.length + 1 ≤ 1000; omega)), fun e => ?_, fun _ e => (by cases e), fun _ _ t3 ht3 => ?_⟩
        · have er : rs = [] := by
            rw [e] at yl
            exact List.length_eq_zero_iff.mp yl.symm
          refine ⟨_, rs ++ [.give sl], rfl, ps5, okg, cg, ?_⟩
          rw [er]
          exact g2
        · refine ⟨_, rs ++ [.give sl], rfl, ps5.new ne ht3, okg, cg, ?_⟩
          rw [rowsD_append, rowsD_one]
          exact Tn.new (TnAll.append (TnAll.keep tkx hT3) (TnAll.one (Tn.keep (TK.of_same (Same.new ht2 _)) g1))) ht3
      · rintro σ' H3 ⟨rv', rs', rfl, ps3, okr', cr', tr'⟩
        refine ⟨_, rfl, .inl ⟨rfl, _, SqL.of ps3.xA⟩, _, rfl, _, rfl, by show 2 ≤ sizeLine; decide, fun t ht => ?_⟩
        have ps4 := ps3.new ne ht (o := .tup [.str nm, rv'])
        have tp : Tn K (upd H3 t (.tup [.str nm, rv'])) (.ref t) (Td.pairD (nm, rs')) := Tn.new (.cons (.str nm) (TnAll.one tr')) ht
        refine ⟨pD, _, _, rfl, rfl, ps4.xA, small1000 (by omega), ?_⟩
        have ps5 := ps4.app ne tp
        obtain ⟨pc, c1, c2, c3, c4⟩ := ps5.dA
        refine ⟨_, rfl, pd, _, rfl, dget_of c1 (get_cells ..), _, rfl, by show 1 ≤ sizeLine; decide, fun l hl => ?_⟩
        have ps6 := ps5.new ne hl (o := .lst [.str nm])
        refine ⟨pc, l, _, _, rfl, rfl, by rw [upd_ne (ne_of_none c2 hl)]; exact c2, upd_same, Nat.le_of_lt (small1000 ?_), fun l2 hl2 => ?_⟩
        · rw [List.length_map, List.length_append, List.length_map]; show srcs.length + ds.length + 1 ≤ 1000; omega
        have ps7 := ps6.new ne hl2 (o := .lst ((srcs ++ ds.map (·.1)).map V.str ++ [.str nm]))
        obtain ⟨pc', e1, e2, e3, e4⟩ := ps7.dA
        refine ⟨_, rfl, pd, _, rfl, DPut.k (k := Sum.inr "cells") e1 (small1000 (by show 7 ≤ 1000; decide)), ?_⟩
        rw [shp7_cells]
        have er : (srcs ++ ds.map (·.1)).map V.str ++ [V.str nm] = (srcs ++ (ds ++ [(nm, rs')]).map (·.1)).map V.str := by simp
        have ps8 := ps7.put (kd' := .str "derived") (pk' := .bl false) (wr' := .bl false) (rd' := srcs ++ (ds ++ [(nm, rs')]).map (·.1)) (pc' := l2) ne (by rw [upd_same, er])
          (ps6.ok.ne hl2).1 (Ne.symm (ne_of_none ps6.xA hl2))
        refine ⟨_, _, _, _, ds ++ [(nm, rs')], rfl, ps8, by rw [List.length_append, dl]; rfl, ?_, okDer_snoc dok okr' cr'⟩
        rw [List.map_append, dn]
        have hx : i < (ns.drop (1 + ms).toNat).length := by rw [List.length_drop]; omega
        rw [List.take_succ_eq_append_getElem hx, List.getElem_drop, hnm]
        rfl
    · rintro σ H1 ⟨v14, v15, v16, xs, ds, rfl, ps, dl, dn, dok⟩
      -- the shape of effects
      obtain ⟨pc, c1, c2, c3, c4⟩ := ps.dA
      refine ⟨_, rfl, pd, _, rfl, DPut.k (k := Sum.inr "kind") c1 (small1000 (by show 7 ≤ 1000; decide)), ?_⟩
      rw [shp7_kind]
      have ps1 := ps.put (kd' := .str "effects") (pk' := .bl false) (wr' := .bl false) ne c2 c3 c4
      refine ⟨_, rfl, _, rfl, pd, _, rfl, DPut.k (k := Sum.inr "peeks") upd_same (small1000 (by show 7 ≤ 1000; decide)), ?_⟩
      rw [shp7_peeks, upd_upd]
      refine ⟨_, rfl, _, rfl, pd, _, rfl, DPut.k (k := Sum.inr "writes") upd_same (small1000 (by show 7 ≤ 1000; decide)), ?_⟩
      rw [shp7_writes, upd_upd]
      have ps3 := ps.put (kd' := .str "effects") (pk' := .bl pk) (wr' := .bl wr) ne c2 c3 c4
      refine ⟨Nat.zero_le _, fun pE hpE => ?_⟩
      show tSeq _ _ _ _ (upd (upd H1 pd (.dK (shp7 (.str "effects") (.ref pc) (.ref p4) (.ref p2) (.ref aw) (.bl pk) (.bl wr)))) pE (.lst []))
      generalize upd H1 pd (.dK (shp7 (.str "effects") (.ref pc) (.ref p4) (.ref p2) (.ref aw) (.bl pk) (.bl wr))) = H2 at ps3 hpE
      obtain ⟨npE, npEc⟩ := ps3.ok.ne hpE
      have nDE : pD ≠ pE := ne_of_none ps3.xA hpE
      have nE : PNe H st sc aw pN p2 p4 pd pE := ⟨naw, pNs, np2, np4, npd, npE, npdc, npEc, d0, ps3.kp.free npE hpE, ne_of_none ps3.nA hpE, ne_of_none ps3.lA hpE⟩
      have pe0 : PSt K H (upd H2 pE (.lst [])) st sc aw pN p2 p4 pd pE ws srcs slots ns (.str "effects") (.bl pk) (.bl wr) (srcs ++ ds.map (·.1)) [] [] := by
        have pn := ps3.new ne hpE (o := .lst [])
        obtain ⟨pc', e1, e2, e3, e4⟩ := ps3.dA
        exact ⟨pn.kp, pn.ok, pn.wA, pn.sA, pn.nA, pn.lA, ⟨pc', (Keep.new hpE (st := st)) _ _ npd e1, (Keep.new hpE (st := st)) _ _ e3 e2, e3, ne_of_none e2 hpE⟩, upd_same, .nil⟩
      have xl : xs.length = ds.length := by rw [ps.tA.length, List.length_map]
      have ddl : ds.length ≤ 6 := by omega
      refine ⟨_, rfl, me, rfl, by omega, by omega, for_range (lo := 0) (n := me.toNat) (fun i σ H' => ∃ (v14 v16 : Option V) (ys : List V) (es : List (Str × List Td.Row)),
        σ = [some (.ref st), some (.ref z), some (.bl pk), some (.bl wr), some (.int (2 + mw)), some (.int (1 + ms)), some (.int md), some (.int me), some (.ref aw), some (.ref pN), some (.ref p2), some (.ref p4), some (.ref pd), some (.ref pD), v14, v15, v16, some (.ref pE)] ∧
        PSt K H H' st sc aw pN p2 p4 pd pE ws srcs slots ns (.str "effects") (.bl pk) (.bl wr) (srcs ++ ds.map (·.1)) ys es ∧ H' pD = some (.lst xs) ∧ TnAll K H' xs (ds.map Td.pairD) ∧ es.length = i ∧ es.map (·.1) = (ns.drop ((1 + ms).toNat + md.toNat)).take i ∧ okEff ws srcs (srcs ++ ds.map (·.1)) (a4.toNat + 1) es)
        ⟨v14, v16, [], [], rfl, pe0, by rw [upd_ne nDE]; exact ps3.xA, TnAll.keep (TK.of_same (Same.new hpE _)) ps3.tA, rfl, by simp, by unfold okEff; trivial⟩ ?_ ?_⟩
      · rintro i σ H3 hi ⟨v14, v16, ys, es, rfl, pe, sX, sT, el, en, eok⟩
        have hil : (1 + ms).toNat + md.toNat + i < ns.length := by omega
        have hat : atI (ns.map V.str) (1 + ms + md + (0 + (i : Int))) = some (V.str ns[(1 + ms).toNat + md.toNat + i]) := by
          have : atI (ns.map V.str) (((1 + ms).toNat + md.toNat + i : Nat) : Int) = some (V.str ns[(1 + ms).toNat + md.toNat + i]) := atI_nat (by rw [List.getElem?_map, List.getElem?_eq_getElem hil]; rfl)
          rwa [show (((1 + ms).toNat + md.toNat + i : Nat) : Int) = 1 + ms + md + (0 + (i : Int)) by omega] at this
        generalize hnm : ns[(1 + ms).toNat + md.toNat + i] = nm at hat
        have yl : ys.length = es.length := by rw [pe.tA.length, List.length_map]
        have sh := pe.shape (eff := true) nE (fun _ => rfl) (fun _ => rfl) w0 sl0 (by simp [so0]) so0 ⟨w100, by omega, by rw [List.length_append, List.length_map]; omega, sr100⟩ slg
        refine ⟨_, rfl, _, rfl, _, rfl, z, _, 4, _, rfl, rfl, SqT.keep pe.kp nz hz, rfl, st, sc, pd, _, slots, 1, a4, rfl, pe.ok, sh, by decide, by decide, a40, by omega, fun rv rs H4 k4 o4 okr cr tr => ?_⟩
        have pe4 := pe.keep nE k4 o4
        have sX4 := k4 _ _ npD sX
        have sT4 := TnAll.keep (TK.of_keep k4 pe.ok.chg) sT
        refine ⟨fun σ' H' => ∃ (rv' : V) (rs' : List Td.Row), σ' = [some (.ref st), some (.ref z), some (.bl pk), some (.bl wr), some (.int (2 + mw)), some (.int (1 + ms)), some (.int md), some (.int me), some (.ref aw), some (.ref pN), some (.ref p2), some (.ref p4), some (.ref pd), some (.ref pD), some (.int (0 + (i : Int))), v15, some rv', some (.ref pE)] ∧
          PSt K H H' st sc aw pN p2 p4 pd pE ws srcs slots ns (.str "effects") (.bl pk) (.bl wr) (srcs ++ ds.map (·.1)) ys es ∧ H' pD = some (.lst xs) ∧ TnAll K H' xs (ds.map Td.pairD) ∧ okRs ⟨true, ws, srcs, srcs ++ ds.map (·.1)⟩ 1 rs' ∧ Lim true (a4.toNat + 1) rs' ∧ Tn K H' rv' (.tuple (rowsD rs')), ?_, ?_⟩
        · refine ⟨_, rfl, st, sc, 4, rfl, by decide, by decide, o4, fun x H5 x0 x1 k5 o5 _ => ⟨_, _, rfl, rfl, _, rfl, ?_⟩⟩
          have pe5 := pe4.keep nE k5 o5
          have tr5 := Tn.keep (TK.of_keep k5 o4.chg) tr
          have sX5 := k5 _ _ npD sX4
          have sT5 := TnAll.keep (TK.of_keep k5 o4.chg) sT4
          refine ite2 (fun _ => ?_) (fun _ => ⟨rv, rs, rfl, pe5, sX5, sT5, okr, ⟨by omega, rs, [], (List.append_nil rs).symm, by omega, .inl rfl⟩, tr5⟩)
          obtain ⟨ar, us, rfl, hS5, hT5⟩ := Tn.tup_inv tr5
          have ul : us.length = rs.length := by rw [hT5.length, rowsD_length]
          have := cnts_len rs
          refine ⟨_, rfl, _, rfl, _, rfl, st, sc, 3, rfl, by decide, by decide, o5, fun y H6 y0 y1 k6 o6 _ => ?_⟩
          have pe6 := pe5.keep nE k6 o6
          obtain ⟨sl, hsl, esl⟩ := pick (xs := slots) y0 (by rw [List.length_map]; omega)
          refine ⟨p2, _, y, _, rfl, rfl, SqL.of pe6.lA, esl, by show 2 ≤ sizeLine; decide, fun t1 ht1 => ⟨by show 1 ≤ sizeLine; decide, fun t2 ht2 => ?_⟩⟩
          have g1 : Tn K (upd H6 t1 (.tup [.str "say", .str sl])) (.ref t1) (rowD (.say sl)) := by unfold rowD; exact Tn.new (TnAll.strs ["say", sl]) ht1
          have g2 := Tn.new (TnAll.one g1) ht2
          have pe7 := (pe6.new nE ht1 (o := .tup [.str "say", .str sl])).new nE ht2 (o := .tup [.ref t1])
          have kx : Keep st H5 (upd (upd H6 t1 (.tup [.str "say", .str sl])) t2 (.tup [.ref t1])) := (k6.trans (Keep.new ht1)).trans (Keep.new ht2)
          have tkx := TK.of_keep kx o5.chg
          have sX7 := kx _ _ npD sX5
          have sT7 := TnAll.keep tkx sT5
          have okg : okRs ⟨true, ws, srcs, srcs ++ ds.map (·.1)⟩ 1 (rs ++ [Td.Row.say sl]) := okRs_append okr (okRs_one (by unfold okR; exact ⟨rfl, slg sl hsl⟩))
          have cg : Lim true (a4.toNat + 1) (rs ++ [Td.Row.say sl]) := ⟨by rw [cnts_append, cnts_one]; show cnts rs + 1 ≤ _; omega, rs, [.say sl], rfl, by omega, .inr ⟨sl, rfl⟩⟩
          refine ⟨ar, t2, us, [.ref t1], rfl, rfl, SqT.tk tkx hS5, SqT.of upd_same, Nat.le_of_lt (small1000 (by show us.length + 1 ≤ 1000; omega)), fun e => ?_, fun _ e => (by cases e), fun _ _ t3 ht3 => ?_⟩
          · have er : rs = [] := by
              rw [e] at ul
              exact List.length_eq_zero_iff.mp ul.symm
            refine ⟨_, rs ++ [.say sl], rfl, pe7, sX7, sT7, okg, cg, ?_⟩
            rw [er]
            exact g2
          · refine ⟨_, rs ++ [.say sl], rfl, pe7.new nE ht3, (Keep.new ht3 (st := st)) _ _ npD sX7, TnAll.keep (TK.of_same (Same.new ht3 _)) sT7, okg, cg, ?_⟩
            rw [rowsD_append, rowsD_one]
            exact Tn.new (TnAll.append (TnAll.keep tkx hT5) (TnAll.one (Tn.keep (TK.of_same (Same.new ht2 _)) g1))) ht3
        · rintro σ' H5 ⟨rv', rs', rfl, pe5, sX5, sT5, okr', cr', tr'⟩
          refine ⟨_, rfl, .inl ⟨rfl, _, SqL.of pe5.xA⟩, _, rfl, _, rfl, _, rfl, _, _, rfl, rfl, _, rfl, _, _, rfl, rfl, pN, _, _, _, rfl, rfl, SqL.of pe5.nA, hat, _, rfl, by show 2 ≤ sizeLine; decide, fun t ht => ?_⟩
          have pe6 := pe5.new nE ht (o := .tup [.str nm, rv'])
          have tp : Tn K (upd H5 t (.tup [.str nm, rv'])) (.ref t) (Td.pairD (nm, rs')) := Tn.new (.cons (.str nm) (TnAll.one tr')) ht
          refine ⟨pE, _, _, rfl, rfl, pe6.xA, small1000 (by omega), ?_⟩
          have pe7 := pe6.app nE tp
          have sX6 : upd H5 t (.tup [.str nm, rv']) pD = some (.lst xs) := (Keep.new ht (st := st)) _ _ npD sX5
          have sT6 := TnAll.keep (TK.of_same (Same.new ht (.tup [.str nm, rv']))) sT5
          refine ⟨_, _, _, es ++ [(nm, rs')], rfl, pe7, by rw [upd_ne nDE]; exact sX6, TnAll.keep (TK.upd (by rw [pe6.xA]; trivial)) sT6, by rw [List.length_append, el]; rfl, ?_, okEff_snoc eok okr' cr'⟩
          rw [List.map_append, en]
          have hx : i < (ns.drop ((1 + ms).toNat + md.toNat)).length := by rw [List.length_drop]; omega
          rw [List.take_succ_eq_append_getElem hx, List.getElem_drop, hnm]
          rfl
      · rintro σ H3 ⟨v14, v16, ys, es, rfl, pe, sX, sT, el, en, eok⟩
        have yl : ys.length = es.length := by rw [pe.tA.length, List.length_map]
        refine ⟨_, rfl, _, rfl, _, rfl, pD, _, rfl, .inl ⟨SqL.of sX, fun t1 ht1 => ?_⟩⟩
        have pe1 := pe.new nE ht1 (o := .tup xs)
        refine ⟨_, rfl, pE, _, rfl, .inl ⟨SqL.of pe1.xA, fun t2 ht2 => ?_⟩⟩
        have pe2 := pe1.new nE ht2 (o := .tup ys)
        refine ⟨by show 4 ≤ sizeLine; decide, fun t3 ht3 => ?_⟩
        have pe3 := pe2.new nE ht3 (o := .tup [.ref aw, .ref p4, .ref t1, .ref t2])
        have tD : Tn K (upd (upd H3 t1 (.tup xs)) t2 (.tup ys)) (.ref t1) (pairsD ds) := Tn.keep (TK.of_same (Same.new ht2 _)) (Tn.new sT ht1)
        have tE : Tn K (upd (upd H3 t1 (.tup xs)) t2 (.tup ys)) (.ref t2) (pairsD es) := Tn.new pe1.tA ht2
        refine q _ ⟨ws, srcs, ds, es⟩ _ pe3.kp pe3.ok ⟨by show 2 ≤ ws.length; omega, by show ws.length ≤ 4; omega, by show 1 ≤ srcs.length; omega, by show srcs.length ≤ 4; omega, ddl, by show es.length ≤ 4; omega, wN, ?_, dok, eok⟩ (by show (srcs.length : Int) ≤ a1; omega) ?_
        · have e : PP.names ⟨ws, srcs, ds, es⟩ = ns := by
            show srcs ++ ds.map (·.1) ++ es.map (·.1) = ns
            rw [dn, en, ← hse]
            have h1 := List.take_append_drop (1 + ms).toNat ns
            have h2 := List.take_append_drop md.toNat (ns.drop (1 + ms).toNat)
            rw [List.drop_drop] at h2
            have h3 : (ns.drop ((1 + ms).toNat + md.toNat)).take me.toNat = ns.drop ((1 + ms).toNat + md.toNat) := List.take_of_length_le (by rw [List.length_drop]; omega)
            rw [h3, List.append_assoc, h2, h1]
          rw [e]; exact nN
        · have k23 : TK (upd (upd H3 t1 (.tup xs)) t2 (.tup ys)) (upd (upd (upd H3 t1 (.tup xs)) t2 (.tup ys)) t3 (.tup [.ref aw, .ref p4, .ref t1, .ref t2])) := TK.of_same (Same.new ht3 _)
          exact ⟨t3, aw, p4, .ref t1, .ref t2, rfl, SqT.of upd_same, pe3.wA, pe3.sA, Tn.keep k23 tD, Tn.keep k23 tE⟩
end
end K77
namespace K77
open PySem PySem.Spec PyProof.Rows L2 Td
/-! ### names and pairs that are right -/
def spIsName : Sp := fun vs H Q _ => ∃ z, vs = [.str z] ∧ isNm z = true ∧ ∀ H', Same H H' → Q (.bl true) H'
def spAreNames (K : PySem.W.Frag) : Sp := fun vs H Q _ => ∃ (a : Addr) (zs : List Str) (l m : Int), vs = [.ref a, .int l, .int m] ∧ SqT K H a (zs.map V.str) ∧ Names zs ∧ l ≤ zs.length ∧ (zs.length : Int) ≤ m ∧ zs.length ≤ 100 ∧
  ∀ H', Same H H' → Q (.bl true) H'
def spNamedPairs (K : PySem.W.Frag) : Sp := fun vs H Q _ => ∃ (v : V) (tk : Addr) (ps : List (Str × List Td.Row)) (ts : List Str) (m : Int), vs = [v, .int m, .ref tk] ∧ Tn K H v (pairsD ps) ∧ SqT K H tk (ts.map V.str) ∧
  Names (ts ++ ps.map (·.1)) ∧ (ps.length : Int) ≤ m ∧ ps.length ≤ 100 ∧ ts.length ≤ 100 ∧ ∀ H', Same H H' → Q (.bl true) H'
def spNamesOf (K : PySem.W.Frag) : Sp := fun vs H Q _ => ∃ (v : V) (ps : List (Str × List Td.Row)), vs = [v] ∧ Tn K H v (pairsD ps) ∧ ps.length ≤ 100 ∧
  ∀ (p : Addr) H', Same H H' → SqT K H' p (ps.map fun q => V.str q.1) → Q (.ref p) H'
theorem isNm_len {z : Str} (h : isNm z = true) : 1 ≤ z.length ∧ z.length ≤ 8 ∧ z.cps.toList.all lowc = true := by
  unfold isNm at h
  simp only [Bool.and_eq_true, decide_eq_true_eq] at h
  exact ⟨h.1.1, h.1.2, h.2⟩
theorem ty_tup {K : PySem.W.Frag} {H : Hp} {a : Addr} {xs : List V} (h : SqT K H a xs) : TyX K H (.ref a) (.type "tuple") := by
  rcases h with (h | ⟨o, h⟩) | ⟨o, its, n, h, c, _⟩
  · exact .base (.tup h)
  · exact .fTuple h
  · exact .kTuple h c
/-- the pairs' items -/
theorem pairs_at {K : PySem.W.Frag} {H : Hp} {v : V} {ps : List (Str × List Td.Row)} (h : Tn K H v (pairsD ps)) : ∃ (a : Addr) (xs : List V), v = .ref a ∧ SqT K H a xs ∧ xs.length = ps.length ∧
    ∀ (i : Nat) (x : V), xs[i]? = some x → ∃ (q : Str × List Td.Row) (b : Addr) (vr : V), ps[i]? = some q ∧ x = .ref b ∧ SqT K H b [.str q.1, vr] ∧ Tn K H vr (.tuple (rowsD q.2)) := by
  obtain ⟨a, xs, rfl, hS, hT⟩ := Tn.tup_inv h
  have hl := hT.length
  rw [List.length_map] at hl
  refine ⟨a, xs, rfl, hS, hl, fun i x hx => ?_⟩
  have hi : i < ps.length := by rw [← hl]; exact (List.getElem?_eq_some_iff.mp hx).1
  obtain ⟨d, h1, h2⟩ := TnAll.get hT hx
  rw [List.getElem?_map, List.getElem?_eq_getElem hi] at h1
  cases h1
  obtain ⟨b, ys, rfl, hS2, hT2⟩ := Tn.tup_inv h2
  cases hT2 with
  | cons c1 c2 =>
    cases c1
    cases c2 with
    | cons c3 c4 =>
      cases c4
      exact ⟨_, b, _, List.getElem?_eq_getElem hi, rfl, hS2, c3⟩
section
variable {P : Program} {w : World} {K : PySem.W.Frag} {mg : Str → Option Value} {base : Heap}
theorem ok_is_name (T : Tops w K mg) : FnOk P w K mg base CX0 1 T.a_is_name T.d_is_name ["value"] spIsName := by
  refine T.F_is_name.ok sc_is_name (fun vs H Q E h => ?_) (fun cdv A outer s H vs Q E hr h => ?_)
  · obtain ⟨z, rfl, _⟩ := h
    rfl
  obtain ⟨z, rfl, hz, q⟩ := h
  obtain ⟨z1, z8, zl⟩ := isNm_len hz
  refine ⟨_, (pss_cons (ps_if (PW.pt (pw_or (pt_not (pt_val (pe_callB call_isi rfl T.z_isinstance (by decide +kernel) (pa_cons (pv 0) (pa_cons (pe_bltn (v := .ty "str") rfl T.z_str (by decide +kernel) rfl) pa_nil))))) (pw_or1 (pt_not (pt_chain op_le op_le pe_int (pe_callB call_len rfl T.z_len PySem.boot_len (pa_cons (pv 0) pa_nil)) (pe_glob (v := .int 8) rfl T.c_LONGEST_NAME ⟨_, rfl⟩)))))) (pss_one (ps_ret pe_bl)) pss_nil)
    (pss_one (ps_ret (pe_callB (cr_all rfl) rfl T.z_all (by decide +kernel) (pa_cons (pe_lc (own := [("letter", 1)]) (g := gName 1) (tt := tYes) rfl sc_is_name.nd (pi_str (pv 0)) (blkOk_by (own := [("letter", 1)]) (N := N_is_name) (sc := defScope s_is_name) (by decide +kernel)) (fun _ _ _ _ _ => (pg_name (i := 1) sc_is_name.nd rfl (Or.inl rfl))) (fun _ _ _ _ _ => pts_nil) (fun _ _ _ _ _ => (pe_chain op_le_str op_le_str pe_str (pv 1) pe_str))) pa_nil))))), ?_⟩
  have zs : z.length ≤ sizeLine := Nat.le_of_lt (small1000 (by omega))
  refine ⟨_, rfl, .str z, .ty "str", .type "str", .type "str", true, rfl, .ty _, .base (.str z), kit_ty (by decide +kernel), true, rfl, iteF ?_⟩
  refine ⟨_, rfl, .str z, _, rfl, ⟨zs, rfl⟩, _, _, rfl, rfl, _, rfl, ?_⟩
  have e1 : decide ((1 : Int) ≤ (z.length : Int)) = true := decide_eq_true (by omega)
  refine if_true_of e1 ?_
  have e2 : decide ((z.length : Int) ≤ (8 : Int)) = true := decide_eq_true (by omega)
  refine ⟨_, _, rfl, rfl, _, rfl, ?_⟩
  refine if_false_of (by rw [e2]; rfl) ?_
  -- all([..])
  refine ⟨_, rfl, z, rfl, fun D hD => lc_str (fun i H' => ∃ bs : List Bool, Same H H' ∧ H' D = some (.lst (bs.map V.bl)) ∧ bs.length = i ∧ bs.all id = true) ⟨[], Same.new hD _, upd_same, rfl, rfl⟩ ?_ ?_⟩
  · rintro i c H' hc ⟨bs, hs, hb, hl, ha⟩
    have hlow : lowc c = true := by
      rw [List.all_eq_true] at zl
      exact zl c (by rw [Array.mem_toList_iff]; exact Array.mem_of_getElem? hc)
    unfold lowc at hlow
    simp only [Bool.and_eq_true, decide_eq_true_eq] at hlow
    have na : ("a" : Str).cps.toList = [97] := by decide +kernel
    have nz : ("z" : Str).cps.toList = [122] := by decide +kernel
    have k1 : (!decide ((⟨#[c]⟩ : Str).cps.toList < ("a" : Str).cps.toList)) = true := by
      rw [na]
      show (!decide ([c] < [97])) = true
      simp [List.cons_lt_cons_iff]
      omega
    have k2 : (!decide (("z" : Str).cps.toList < (⟨#[c]⟩ : Str).cps.toList)) = true := by
      rw [nz]
      show (!decide ([122] < [c])) = true
      simp [List.cons_lt_cons_iff]
      omega
    have hic : i < z.cps.size := (Array.getElem?_eq_some_iff.mp hc).1
    have hz8 : z.cps.size ≤ 8 := z8
    refine ⟨rfl, ?_⟩
    refine tYes_of ?_
    refine ⟨_, rfl, _, _, rfl, rfl, _, rfl, if_true_of k1 ?_⟩
    refine ⟨_, _, rfl, rfl, _, hb, small1000 (by rw [List.length_map]; omega), bs ++ [true], ?_, ?_, by rw [List.length_append, hl]; rfl, ?_⟩
    · intro b o e
      rw [upd_ne (ne_of_none e hD)]
      exact hs b o e
    · rw [upd_same, k2, List.map_append]; rfl
    · rw [List.all_append, ha]; rfl
  · rintro H' ⟨bs, hs, hb, hl, ha⟩
    refine ⟨D, bs, rfl, SqL.of hb, ?_⟩
    rw [ha]
    exact q H' hs
theorem ok_are_names (T : Tops w K mg) (G_is_name : FnOk P w K mg base CX0 1 T.a_is_name T.d_is_name ["value"] spIsName) :
    FnOk P w K mg base CX0 2 T.a_are_names T.d_are_names ["value", "least", "most"] (spAreNames K) := by
  refine T.F_are_names.ok sc_are_names (fun vs H Q E h => ?_) (fun cdv A outer s H vs Q E hr h => ?_)
  · obtain ⟨a, zs, l, m, rfl, _⟩ := h
    rfl
  obtain ⟨a, zs, l, m, rfl, hS, hN, hl, hm, h100, q⟩ := h
  refine ⟨_, (pss_cons (ps_if (PW.pt (pw_or (pt_not (pt_val (pe_callB call_isi rfl T.z_isinstance (by decide +kernel) (pa_cons (pv 0) (pa_cons (pe_bltn (v := .ty "tuple") rfl T.z_tuple (by decide +kernel) rfl) pa_nil))))) (pw_or1 (pt_not (pt_chain op_le op_le (pv 1) (pe_callB call_len rfl T.z_len PySem.boot_len (pa_cons (pv 0) pa_nil)) (pv 2)))))) (pss_one (ps_ret pe_bl)) pss_nil)
    (pss_one (ps_ret (pe_and (pe_callB (cr_all rfl) rfl T.z_all (by decide +kernel) (pa_cons (pe_lc (own := [("item", 3)]) (g := gName 3) (tt := tYes) rfl sc_are_names.nd (pi_tup (pv 0)) (blkOk_by (own := [("item", 3)]) (N := N_are_names) (sc := defScope s_are_names) (by decide +kernel)) (fun _ _ _ _ _ => (pg_name (i := 3) sc_are_names.nd rfl (Or.inl rfl))) (fun _ _ _ _ _ => pts_nil) (fun _ _ _ _ _ => (pe_call G_is_name (hr.mono (by omega)) rfl T.m_is_name T.F_is_name.kp T.b_is_name .nil pass0 (pa_cons (pv 3) pa_nil)))) pa_nil)) (pe_one (pe_cmpR op_eq (pe_lenSetT rfl rfl T.z_len rfl T.z_set (pv 0)) (pe_callB call_len rfl T.z_len PySem.boot_len (pa_cons (pv 0) pa_nil)) (nomark _))))))), ?_⟩
  refine ⟨_, rfl, .ref a, .ty "tuple", .type "tuple", .type "tuple", true, rfl, .ty _, ty_tup hS, kit_ty (by decide +kernel), true, rfl, iteF ?_⟩
  have e0 : (zs.map V.str).length = zs.length := List.length_map _
  refine ⟨_, rfl, _, rfl, .ref a, _, rfl, .inr ⟨_, hS, rfl⟩, _, _, rfl, rfl, _, rfl, ?_⟩
  have e1 : decide (l ≤ (((zs.map V.str).length : Nat) : Int)) = true := decide_eq_true (by omega)
  refine if_true_of e1 ?_
  have e2 : decide ((((zs.map V.str).length : Nat) : Int) ≤ m) = true := decide_eq_true (by omega)
  refine ⟨_, rfl, _, _, rfl, rfl, _, rfl, ?_⟩
  refine if_false_of (by rw [e2]; rfl) ?_
  refine ⟨_, rfl, a, rfl, ⟨_, hS⟩, fun D hD => lc_tup (K := K) (a := a) (xs := zs.map V.str) (fun i H' => ∃ bs : List Bool, Same H H' ∧ H' D = some (.lst (bs.map V.bl)) ∧ bs.length = i ∧ bs.all id = true)
    ⟨[], Same.new hD _, upd_same, rfl, rfl⟩ (fun i H' _ ⟨_, hs, _⟩ => SqT.same hs hS) ?_ ?_⟩
  · rintro i x H' hx ⟨bs, hs, hb, hl', ha⟩
    rw [List.getElem?_map] at hx
    obtain ⟨z, hz, rfl⟩ := Option.map_eq_some_iff.mp hx
    have hi : i < zs.length := (List.getElem?_eq_some_iff.mp hz).1
    refine ⟨rfl, ?_⟩
    refine tYes_of ?_
    refine ⟨_, rfl, z, rfl, hN.good z (List.mem_of_getElem? hz), fun H4 s4 => ⟨_, s4 _ _ hb, small1000 (by rw [List.length_map]; omega), bs ++ [true], ?_, by rw [upd_same, List.map_append]; rfl, by rw [List.length_append, hl']; rfl, by rw [List.all_append, ha]; rfl⟩⟩
    intro b o e
    rw [upd_ne (ne_of_none e hD)]
    exact s4 _ _ (hs b o e)
  · rintro H' ⟨bs, hs, hb, hl', ha⟩
    have hS' := SqT.same hs hS
    refine ⟨D, bs, rfl, SqL.of hb, _, rfl, ?_⟩
    refine if_true_of ha ?_
    refine ⟨_, rfl, a, zs, rfl, hS', by omega, _, rfl, .ref a, _, rfl, .inr ⟨_, hS', rfl⟩, rfl, ?_⟩
    have e3 : TdSet.dcnt zs zs.length = zs.length := TdSet.dcnt_nodup (Nat.le_refl _) (by rw [List.take_length]; exact hN.nd)
    have e4 : decide (V.int (TdSet.dcnt zs zs.length : Nat) = V.int (((zs.map V.str).length : Nat) : Int)) = true := by rw [e3, e0]; exact decide_eq_true rfl
    rw [e4]
    exact q H' hs
theorem ok_named_pairs (T : Tops w K mg) (G_is_name : FnOk P w K mg base CX0 1 T.a_is_name T.d_is_name ["value"] spIsName) :
    FnOk P w K mg base CX0 2 T.a_are_named_pairs T.d_are_named_pairs ["value", "most", "taken"] (spNamedPairs K) := by
  refine T.F_are_named_pairs.ok sc_are_named_pairs (fun vs H Q E h => ?_) (fun cdv A outer s H vs Q E hr h => ?_)
  · obtain ⟨v, tk, ps, ts, m, rfl, _⟩ := h
    rfl
  obtain ⟨v, tk, ps, ts, m, rfl, hT, hS, hN, hm, h100, t100, q⟩ := h
  obtain ⟨a, xs, rfl, hA, hl, hx⟩ := pairs_at hT
  refine ⟨_, (pss_cons (ps_if (PW.pt (pw_or (pt_not (pt_val (pe_callB call_isi rfl T.z_isinstance (by decide +kernel) (pa_cons (pv 0) (pa_cons (pe_bltn (v := .ty "tuple") rfl T.z_tuple (by decide +kernel) rfl) pa_nil))))) (pw_or1 (pt_cmpR op_gt (pe_callB call_len rfl T.z_len PySem.boot_len (pa_cons (pv 0) pa_nil)) (pv 1) (nomark _))))) (pss_one (ps_ret pe_bl)) pss_nil)
    (pss_cons (ps_set (i := 3) sc_are_named_pairs.nd rfl (Or.inl rfl) (pe_callTy call_list_of rfl T.z_list (by decide +kernel) (pa_cons (pv 2) pa_nil)))
    (pss_cons (ps_for PassesOwn.never rfl (pi_tup (pv 0)) (pg_name (i := 4) sc_are_named_pairs.nd rfl (Or.inl rfl)) (pss_cons (ps_if (PW.pt (pw_or (pt_not (pt_val (pe_callB call_isi rfl T.z_isinstance (by decide +kernel) (pa_cons (pv 4) (pa_cons (pe_bltn (v := .ty "tuple") rfl T.z_tuple (by decide +kernel) rfl) pa_nil))))) (pw_or1 (pt_cmpR op_ne (pe_callB call_len rfl T.z_len PySem.boot_len (pa_cons (pv 4) pa_nil)) pe_int (nomark _))))) (pss_one (ps_ret pe_bl)) pss_nil)
    (pss_cons (ps_if (PW.pt (pw_or (pt_not (pt_val (pe_call G_is_name (hr.mono (by omega)) rfl T.m_is_name T.F_is_name.kp T.b_is_name .nil pass0 (pa_cons (pe_ix ix_tup (pv 4) pe_int (fun _ _ => rfl)) pa_nil)))) (pw_or1 (pt_cmpR op_in_seq (pe_ix ix_tup (pv 4) pe_int (fun _ _ => rfl)) (pv 3) (by rfl))))) (pss_one (ps_ret pe_bl)) pss_nil)
    (pss_one (ps_expr (pe_bm PySem.F.plainAttrs_list PySem.F.slot_list_append PySem.F.type_list_append mt_append (pv 3) (pa_cons (pe_ix ix_tup (pv 4) pe_int (fun _ _ => rfl)) pa_nil)))))))
    (pss_one (ps_ret pe_bl))))), ?_⟩
  refine ⟨_, rfl, .ref a, .ty "tuple", .type "tuple", .type "tuple", true, rfl, .ty _, ty_tup hA, kit_ty (by decide +kernel), true, rfl, iteF ?_⟩
  refine ⟨_, rfl, .ref a, _, rfl, .inr ⟨_, hA, rfl⟩, _, rfl, _, _, rfl, rfl, _, rfl, ?_⟩
  have e1 : decide (m < ((xs.length : Nat) : Int)) = false := decide_eq_false (by omega)
  refine if_false_of e1 ?_
  refine ⟨_, rfl, tk, _, rfl, .inr hS, fun l hl0 => ?_⟩
  refine ⟨_, rfl, a, rfl, ⟨_, SqT.same (Same.new hl0 _) hA⟩, for_tup (K := K) (a := a) (xs := xs) (fun i σ H' => ∃ v4 : Option V, σ = [some (.ref a), some (.int m), some (.ref tk), some (.ref l), v4] ∧ Same H H' ∧ H' l = some (.lst ((ts ++ (ps.take i).map (·.1)).map V.str)))
    ⟨none, rfl, Same.new hl0 _, by simpa using upd_same⟩ (fun i σ H' _ ⟨_, _, hs, _⟩ => SqT.same hs hA) ?_ ?_⟩
  · rintro i x σ H' hi ⟨v4, rfl, hs, hL⟩
    obtain ⟨qq, b, vr, hq, rfl, hB, hR⟩ := hx i x hi
    have hB' := SqT.same hs hB
    have hips : i < ps.length := (List.getElem?_eq_some_iff.mp hq).1
    refine ⟨_, rfl, .ref b, .ty "tuple", .type "tuple", .type "tuple", true, rfl, .ty _, ty_tup hB', kit_ty (by decide +kernel), true, rfl, iteF ?_⟩
    refine ⟨_, rfl, .ref b, _, rfl, .inr ⟨_, hB', rfl⟩, rfl, _, rfl, ?_⟩
    refine if_false_of (by show (!decide (V.int ((2 : Nat) : Int) = V.int 2)) = false; decide +kernel) ?_
    have hmem : qq.1 ∈ ps.map (·.1) := List.mem_map.mpr ⟨qq, List.mem_of_getElem? hq, rfl⟩
    refine ⟨_, rfl, b, _, 0, _, rfl, rfl, hB', rfl, qq.1, rfl, hN.good _ (List.mem_append_right _ hmem), fun H3 s3 => ⟨true, rfl, iteF ?_⟩⟩
    have hB3 := SqT.same s3 hB'
    have hL3 := s3 _ _ hL
    refine ⟨_, rfl, b, _, 0, _, rfl, rfl, hB3, rfl, _, rfl, l, _, rfl, .inl (SqL.of hL3), rfl, L2.flat_strs _, _, rfl, ?_⟩
    have hnot : qq.1 ∉ ts ++ (ps.take i).map (·.1) := by
      have e : ts ++ ps.map (·.1) = (ts ++ (ps.take i).map (·.1)) ++ (ps.drop i).map (·.1) := by
        rw [List.append_assoc, ← List.map_append, List.take_append_drop]
      have nd := hN.nd
      rw [e] at nd
      intro hin
      refine (List.nodup_append.mp nd).2.2 _ hin qq.1 ?_ rfl
      refine List.mem_map.mpr ⟨qq, ?_, rfl⟩
      have : (ps.drop i)[0]? = some qq := by rw [List.getElem?_drop]; exact hq
      exact List.mem_of_getElem? this
    refine if_false_of (by show (inV _ _) = false; rw [inV_strs]; exact decide_eq_false hnot) ?_
    refine ⟨_, rfl, .inl ⟨rfl, _, SqL.of hL3⟩, _, rfl, b, _, 0, _, rfl, rfl, hB3, rfl, l, _, _, rfl, rfl, hL3, small1000 ?_, ?_⟩
    · rw [List.length_map, List.length_append, List.length_map, List.length_take]; omega
    · refine ⟨_, rfl, fun b o e => ?_, ?_⟩
      · rw [upd_ne (ne_of_none e hl0)]
        exact s3 _ _ (hs b o e)
      · rw [upd_same, take_more hq]
        simp
  · rintro σ H' ⟨v4, rfl, hs, hL⟩
    exact q H' hs
theorem ok_names_of (T : Tops w K mg) : FnOk P w K mg base CX0 1 T.a_names_of T.d_names_of ["pairs"] (spNamesOf K) := by
  refine T.F_names_of.ok sc_names_of (fun vs H Q E h => ?_) (fun cdv A outer s H vs Q E hr h => ?_)
  · obtain ⟨v, ps, rfl, _⟩ := h
    rfl
  obtain ⟨v, ps, rfl, hT, h100, q⟩ := h
  obtain ⟨a, xs, rfl, hA, hl, hx⟩ := pairs_at hT
  refine ⟨_, (pss_one (ps_ret (pe_callTy call_tuple_of rfl T.z_tuple (by decide +kernel) (pa_cons (pe_lc (own := [("name", 1), ("_", 2)]) (g := gTup K 2 (gCons (gName 1) (gCons (gName 2) gNil))) (tt := tYes) rfl sc_names_of.nd (pi_tup (pv 0)) (blkOk_by (own := [("name", 1), ("_", 2)]) (N := N_names_of) (sc := defScope s_names_of) (by decide +kernel)) (fun _ _ _ _ _ => (pg_tup rfl (pgs_cons (pg_name (i := 1) sc_names_of.nd rfl (Or.inl rfl)) (pgs_cons (pg_name (i := 2) sc_names_of.nd rfl (Or.inl rfl)) pgs_nil)))) (fun _ _ _ _ _ => pts_nil) (fun _ _ _ _ _ => (pv 1))) pa_nil)))), ?_⟩
  refine ⟨_, rfl, a, rfl, ⟨_, hA⟩, fun D hD => lc_tup (K := K) (a := a) (xs := xs) (fun i H' => Same H H' ∧ H' D = some (.lst ((ps.take i).map fun q => V.str q.1)))
    ⟨Same.new hD _, by simpa using upd_same⟩ (fun i H' _ ⟨hs, _⟩ => SqT.same hs hA) ?_ ?_⟩
  · rintro i x H' hi ⟨hs, hb⟩
    obtain ⟨qq, b, vr, hq, rfl, hB, hR⟩ := hx i x hi
    have hB' := SqT.same hs hB
    have hips : i < ps.length := (List.getElem?_eq_some_iff.mp hq).1
    refine ⟨b, _, rfl, hB', rfl, _, _, rfl, _, _, rfl, rfl, rfl, ?_⟩
    refine tYes_of ?_
    refine ⟨_, rfl, _, hb, small1000 (by rw [List.length_map, List.length_take]; omega), fun c o e => ?_, ?_⟩
    · rw [upd_ne (ne_of_none e hD)]
      exact hs c o e
    · rw [upd_same, take_more hq, List.map_append]; rfl
  · rintro H' ⟨hs, hb⟩
    rw [hl, List.take_length] at hb
    refine ⟨D, _, rfl, .inl ⟨SqL.of hb, fun p hp => q p _ (hs.trans (Same.new hp _)) (SqT.of upd_same)⟩⟩
end
end K77
namespace K77
open PySem PySem.Spec PyProof.Rows L2 Td
/-! ### the rows of a body that is right -/
def kdS (eff : Bool) : Str := if eff then "effects" else "derived"
def scF (kd : Str) (aw as ar : Addr) : List (Str × V) := [("kind", .str kd), ("words", .ref aw), ("sources", .ref as), ("readable", .ref ar)]
theorem scF_put (kd : Str) (aw as ar : Addr) : putF "readable" (.ref ar) (putF "sources" (.ref as) (putF "words" (.ref aw) (putF "kind" (.str kd) []))) = scF kd aw as ar := by kernel_rfl
theorem scF_kind (kd : Str) (aw as ar : Addr) : (scF kd aw as ar).lookup ("kind" : Str) = some (.str kd) := by kernel_rfl
theorem scF_words (kd : Str) (aw as ar : Addr) : (scF kd aw as ar).lookup ("words" : Str) = some (.ref aw) := by kernel_rfl
theorem scF_sources (kd : Str) (aw as ar : Addr) : (scF kd aw as ar).lookup ("sources" : Str) = some (.ref as) := by kernel_rfl
theorem scF_readable (kd : Str) (aw as ar : Addr) : (scF kd aw as ar).lookup ("readable" : Str) = some (.ref ar) := by kernel_rfl
structure ScopeAt (K : PySem.W.Frag) (H : Hp) (C sa : Addr) (S : Sc) : Prop where
  ex : ∃ (dx aw as ar : Addr), H sa = some (.ins C dx (scF (kdS S.eff) aw as ar)) ∧ SqT K H aw (S.words.map V.str) ∧ SqT K H as (S.sources.map V.str) ∧ SqT K H ar (S.readable.map V.str)
theorem ScopeAt.same {K : PySem.W.Frag} {H H' : Hp} {C sa : Addr} {S : Sc} (h : ScopeAt K H C sa S) (s : Same H H') : ScopeAt K H' C sa S := by
  obtain ⟨dx, aw, as, ar, e, h1, h2, h3⟩ := h.ex
  exact ⟨dx, aw, as, ar, s _ _ e, SqT.same s h1, SqT.same s h2, SqT.same s h3⟩
def spScope (C : Addr) : Sp := fun vs H Q _ => ∃ (x dx aw as ar : Addr) (kd : Str), vs = [.ref x, .str kd, .ref aw, .ref as, .ref ar] ∧ H x = some (.ins C dx []) ∧ Q .non (upd H x (.ins C dx (scF kd aw as ar)))
def spRead (K : PySem.W.Frag) (C : Addr) : Sp := fun vs H Q _ => ∃ (v : V) (sa : Addr) (S : Sc) (pk : Bool) (c s : Str), vs = [v, .ref sa] ∧ Dp K H v (rowD (.rd pk c s)) ∧ ScopeAt K H C sa S ∧ c ∈ S.readable ∧ isNm s = true ∧ ∀ H', Same H H' → Q (.bl true) H'
def spPut (K : PySem.W.Frag) (C : Addr) : Sp := fun vs H Q _ => ∃ (v : V) (sa : Addr) (S : Sc) (s u : Str), vs = [v, .ref sa] ∧ Dp K H v (rowD (.put s u)) ∧ ScopeAt K H C sa S ∧ u ∈ S.words ∧ isNm s = true ∧ ∀ H', Same H H' → Q (.bl true) H'
def spIf (K : PySem.W.Frag) (C : Addr) : Sp := fun vs H Q _ => ∃ (v : V) (sa : Addr) (S : Sc) (s u : Str) (y n : List Td.Row), vs = [v, .ref sa] ∧ Dp K H v (rowD (.ite s u y n)) ∧ ScopeAt K H C sa S ∧ u ∈ S.words ∧ isNm s = true ∧ ∀ H', Same H H' → Q (.bl true) H'
def spSlot (K : PySem.W.Frag) (C : Addr) : Sp := fun vs H Q _ => ∃ (v : V) (sa : Addr) (S : Sc) (g : Bool) (s : Str), vs = [v, .ref sa] ∧ Dp K H v (rowD (if g then .give s else .say s)) ∧ ScopeAt K H C sa S ∧ isNm s = true ∧ ∀ H', Same H H' → Q (.bl true) H'
def spWrite (K : PySem.W.Frag) (C : Addr) : Sp := fun vs H Q _ => ∃ (v : V) (sa : Addr) (S : Sc) (c s : Str), vs = [v, .ref sa] ∧ Dp K H v (rowD (.wr c s)) ∧ ScopeAt K H C sa S ∧ c ∈ S.sources ∧ isNm s = true ∧ ∀ H', Same H H' → Q (.bl true) H'
theorem in_of {z : Str} {ws : List Str} (h : z ∈ ws) : inV (.str z) (ws.map V.str) = true := by rw [inV_strs]; exact decide_eq_true h
section
variable {P : Program} {w : World} {K : PySem.W.Frag} {mg : Str → Option Value} {base : Heap}
theorem ok_scope (T : Tops w K mg) : FnOk P w K mg base CX0 1 T.a_Scope_init T.d_Scope_init ["self", "kind", "words", "sources", "readable"] (spScope T.c_Scope) := by
  refine T.F_Scope_init.ok sc_Scope_init (fun vs H Q E h => ?_) (fun cdv A outer s H vs Q E hr h => ?_)
  · obtain ⟨x, dx, aw, as, ar, kd, rfl, _⟩ := h
    rfl
  obtain ⟨x, dx, aw, as, ar, kd, rfl, hx, q⟩ := h
  refine ⟨_, (pss_cons (ps_fld (pv 0) (pv 1) rfl)
    (pss_cons (ps_fld (pv 0) (pv 2) rfl)
    (pss_cons (ps_fld (pv 0) (pv 3) rfl)
    (pss_one (ps_fld (pv 0) (pv 4) rfl))))), ?_⟩
  refine ⟨_, rfl, _, rfl, x, T.c_Scope, dx, [], rfl, hx, T.l_Scope, T.n_Scope_kind, by show 0 < 1000; decide, ?_⟩
  refine ⟨_, rfl, _, rfl, x, T.c_Scope, dx, _, rfl, upd_same, T.l_Scope, T.n_Scope_words, by show 1 < 1000; decide, ?_⟩
  rw [upd_upd]
  refine ⟨_, rfl, _, rfl, x, T.c_Scope, dx, _, rfl, upd_same, T.l_Scope, T.n_Scope_sources, Nat.lt_of_le_of_lt (m := 2) (Nat.le_of_eq (by kernel_rfl)) (by decide), ?_⟩
  rw [upd_upd]
  refine ⟨_, rfl, _, rfl, x, T.c_Scope, dx, _, rfl, upd_same, T.l_Scope, T.n_Scope_readable, Nat.lt_of_le_of_lt (m := 3) (Nat.le_of_eq (by kernel_rfl)) (by decide), ?_⟩
  rw [upd_upd, scF_put]
  exact q
theorem ok_read (T : Tops w K mg) (G_is_name : FnOk P w K mg base CX0 1 T.a_is_name T.d_is_name ["value"] spIsName) : FnOk P w K mg base CX0 2 T.a_is_read_row T.d_is_read_row ["row", "scope"] (spRead K T.c_Scope) := by
  refine T.F_is_read_row.ok sc_is_read_row (fun vs H Q E h => ?_) (fun cdv A outer s H vs Q E hr h => ?_)
  · obtain ⟨v, sa, S, pk, c, s, rfl, _⟩ := h
    rfl
  obtain ⟨v, sa, S, pk, c, sl, rfl, hD, hSc, hc, hs, q⟩ := h
  obtain ⟨a, rfl, hS⟩ := rd_at hD
  obtain ⟨dx, aw, as, ar, e, h1, h2, h3⟩ := hSc.ex
  refine ⟨_, (pss_one (ps_ret (pe_and (pe_cmpR op_eq (pe_callB call_len rfl T.z_len PySem.boot_len (pa_cons (pv 0) pa_nil)) pe_int (nomark _)) (pe_and (pe_cmpR op_in_seq (pe_ix ix_tup (pv 0) pe_int (fun _ _ => rfl)) (pe_fld (pv 1) rfl) (by rfl)) (pe_one (pe_call G_is_name (hr.mono (by omega)) rfl T.m_is_name T.F_is_name.kp T.b_is_name .nil pass0 (pa_cons (pe_ix ix_tup (pv 0) pe_int (fun _ _ => rfl)) pa_nil))))))), ?_⟩
  refine ⟨_, rfl, .ref a, _, rfl, .inr ⟨_, hS, rfl⟩, rfl, _, rfl, if_true_of (by show decide (V.int ((3 : Nat) : Int) = V.int 3) = true; decide +kernel) ?_⟩
  refine ⟨_, rfl, a, _, 1, _, rfl, rfl, hS, rfl, _, rfl, sa, _, dx, _, _, rfl, e, T.l_Scope, T.n_Scope_readable, scF_readable .., ar, _, rfl, .inr h3, rfl, L2.flat_strs _, _, rfl, if_true_of (in_of hc) ?_⟩
  exact ⟨_, rfl, a, _, 2, _, rfl, rfl, hS, rfl, sl, rfl, hs, q⟩
theorem ok_put (T : Tops w K mg) (G_is_name : FnOk P w K mg base CX0 1 T.a_is_name T.d_is_name ["value"] spIsName) : FnOk P w K mg base CX0 2 T.a_is_put_row T.d_is_put_row ["row", "scope"] (spPut K T.c_Scope) := by
  refine T.F_is_put_row.ok sc_is_put_row (fun vs H Q E h => ?_) (fun cdv A outer s H vs Q E hr h => ?_)
  · obtain ⟨v, sa, S, s, u, rfl, _⟩ := h
    rfl
  obtain ⟨v, sa, S, sl, u, rfl, hD, hSc, hc, hs, q⟩ := h
  obtain ⟨a, rfl, hS⟩ := put_at hD
  refine ⟨_, (pss_one (ps_ret (pe_and (pe_cmpR op_eq (pe_callB call_len rfl T.z_len PySem.boot_len (pa_cons (pv 0) pa_nil)) pe_int (nomark _)) (pe_and (pe_call G_is_name (hr.mono (by omega)) rfl T.m_is_name T.F_is_name.kp T.b_is_name .nil pass0 (pa_cons (pe_ix ix_tup (pv 0) pe_int (fun _ _ => rfl)) pa_nil)) (pe_one (pe_cmpR op_in_seq (pe_ix ix_tup (pv 0) pe_int (fun _ _ => rfl)) (pe_fld (pv 1) rfl) (by rfl))))))), ?_⟩
  refine ⟨_, rfl, .ref a, _, rfl, .inr ⟨_, hS, rfl⟩, rfl, _, rfl, if_true_of (by show decide (V.int ((3 : Nat) : Int) = V.int 3) = true; decide +kernel) ?_⟩
  refine ⟨_, rfl, a, _, 1, _, rfl, rfl, hS, rfl, sl, rfl, hs, fun H1 s1 => ⟨_, rfl, iteT ?_⟩⟩
  obtain ⟨dx, aw, as, ar, e, h1, h2, h3⟩ := (hSc.same s1).ex
  refine ⟨_, rfl, a, _, 2, _, rfl, rfl, SqT.same s1 hS, rfl, _, rfl, sa, _, dx, _, _, rfl, e, T.l_Scope, T.n_Scope_words, scF_words .., aw, _, rfl, .inr h1, rfl, L2.flat_strs _, ?_⟩
  show Q (.bl (inV _ _)) H1
  rw [in_of hc]
  exact q H1 s1
theorem ok_slot (T : Tops w K mg) (G_is_name : FnOk P w K mg base CX0 1 T.a_is_name T.d_is_name ["value"] spIsName) : FnOk P w K mg base CX0 2 T.a_is_slot_row T.d_is_slot_row ["row", "scope"] (spSlot K T.c_Scope) := by
  refine T.F_is_slot_row.ok sc_is_slot_row (fun vs H Q E h => ?_) (fun cdv A outer s H vs Q E hr h => ?_)
  · obtain ⟨v, sa, S, g, s, rfl, _⟩ := h
    rfl
  obtain ⟨v, sa, S, g, sl, rfl, hD, hSc, hs, q⟩ := h
  obtain ⟨a, tg, rfl, hS⟩ : ∃ (a : Addr) (tg : Str), v = .ref a ∧ SqT K H a [.str tg, .str sl] := by
    cases g with
    | true => obtain ⟨a, e, h⟩ := give_at hD; exact ⟨a, _, e, h⟩
    | false => obtain ⟨a, e, h⟩ := say_at hD; exact ⟨a, _, e, h⟩
  refine ⟨_, (pss_one (ps_ret (pe_and (pe_cmpR op_eq (pe_callB call_len rfl T.z_len PySem.boot_len (pa_cons (pv 0) pa_nil)) pe_int (nomark _)) (pe_one (pe_call G_is_name (hr.mono (by omega)) rfl T.m_is_name T.F_is_name.kp T.b_is_name .nil pass0 (pa_cons (pe_ix ix_tup (pv 0) pe_int (fun _ _ => rfl)) pa_nil)))))), ?_⟩
  refine ⟨_, rfl, .ref a, _, rfl, .inr ⟨_, hS, rfl⟩, rfl, _, rfl, if_true_of (by show decide (V.int ((2 : Nat) : Int) = V.int 2) = true; decide +kernel) ?_⟩
  exact ⟨_, rfl, a, _, 1, _, rfl, rfl, hS, rfl, sl, rfl, hs, q⟩
theorem ok_write (T : Tops w K mg) (G_is_name : FnOk P w K mg base CX0 1 T.a_is_name T.d_is_name ["value"] spIsName) : FnOk P w K mg base CX0 2 T.a_is_write_row T.d_is_write_row ["row", "scope"] (spWrite K T.c_Scope) := by
  refine T.F_is_write_row.ok sc_is_write_row (fun vs H Q E h => ?_) (fun cdv A outer s H vs Q E hr h => ?_)
  · obtain ⟨v, sa, S, c, s, rfl, _⟩ := h
    rfl
  obtain ⟨v, sa, S, c, sl, rfl, hD, hSc, hc, hs, q⟩ := h
  obtain ⟨a, rfl, hS⟩ := wr_at hD
  obtain ⟨dx, aw, as, ar, e, h1, h2, h3⟩ := hSc.ex
  refine ⟨_, (pss_one (ps_ret (pe_and (pe_cmpR op_eq (pe_callB call_len rfl T.z_len PySem.boot_len (pa_cons (pv 0) pa_nil)) pe_int (nomark _)) (pe_and (pe_cmpR op_in_seq (pe_ix ix_tup (pv 0) pe_int (fun _ _ => rfl)) (pe_fld (pv 1) rfl) (by rfl)) (pe_one (pe_call G_is_name (hr.mono (by omega)) rfl T.m_is_name T.F_is_name.kp T.b_is_name .nil pass0 (pa_cons (pe_ix ix_tup (pv 0) pe_int (fun _ _ => rfl)) pa_nil))))))), ?_⟩
  refine ⟨_, rfl, .ref a, _, rfl, .inr ⟨_, hS, rfl⟩, rfl, _, rfl, if_true_of (by show decide (V.int ((3 : Nat) : Int) = V.int 3) = true; decide +kernel) ?_⟩
  refine ⟨_, rfl, a, _, 1, _, rfl, rfl, hS, rfl, _, rfl, sa, _, dx, _, _, rfl, e, T.l_Scope, T.n_Scope_sources, scF_sources .., as, _, rfl, .inr h2, rfl, L2.flat_strs _, _, rfl, if_true_of (in_of hc) ?_⟩
  exact ⟨_, rfl, a, _, 2, _, rfl, rfl, hS, rfl, sl, rfl, hs, q⟩
theorem ok_if (T : Tops w K mg) (G_is_name : FnOk P w K mg base CX0 1 T.a_is_name T.d_is_name ["value"] spIsName) : FnOk P w K mg base CX0 2 T.a_is_if_row T.d_is_if_row ["row", "scope"] (spIf K T.c_Scope) := by
  refine T.F_is_if_row.ok sc_is_if_row (fun vs H Q E h => ?_) (fun cdv A outer s H vs Q E hr h => ?_)
  · obtain ⟨v, sa, S, s, u, y, n, rfl, _⟩ := h
    rfl
  obtain ⟨v, sa, S, sl, u, y, n, rfl, hD, hSc, hc, hs, q⟩ := h
  obtain ⟨a, vy, vn, rfl, hS, hy, hn⟩ := ite_at hD
  refine ⟨_, (pss_cons (ps_if (PW.pt (pw_or (pt_cmpR op_ne (pe_callB call_len rfl T.z_len PySem.boot_len (pa_cons (pv 0) pa_nil)) pe_int (nomark _)) (pw_or (pt_not (pt_val (pe_call G_is_name (hr.mono (by omega)) rfl T.m_is_name T.F_is_name.kp T.b_is_name .nil pass0 (pa_cons (pe_ix ix_tup (pv 0) pe_int (fun _ _ => rfl)) pa_nil)))) (pw_or1 (pt_cmpR op_notIn_seq (pe_ix ix_tup (pv 0) pe_int (fun _ _ => rfl)) (pe_fld (pv 1) rfl) (by rfl)))))) (pss_one (ps_ret pe_bl)) pss_nil)
    (pss_one (ps_ret (pe_and (pe_callB call_isi rfl T.z_isinstance (by decide +kernel) (pa_cons (pe_ix ix_tup (pv 0) pe_int (fun _ _ => rfl)) (pa_cons (pe_bltn (v := .ty "tuple") rfl T.z_tuple (by decide +kernel) rfl) pa_nil))) (pe_one (pe_callB call_isi rfl T.z_isinstance (by decide +kernel) (pa_cons (pe_ix ix_tup (pv 0) pe_int (fun _ _ => rfl)) (pa_cons (pe_bltn (v := .ty "tuple") rfl T.z_tuple (by decide +kernel) rfl) pa_nil)))))))), ?_⟩
  refine ⟨_, rfl, .ref a, _, rfl, .inr ⟨_, hS, rfl⟩, rfl, _, rfl, if_false_of (by show (!decide (V.int ((5 : Nat) : Int) = V.int 5)) = false; decide +kernel) ?_⟩
  refine ⟨_, rfl, a, _, 1, _, rfl, rfl, hS, rfl, sl, rfl, hs, fun H1 s1 => ⟨_, rfl, iteF ?_⟩⟩
  obtain ⟨dx, aw, as, ar, e, h1, h2, h3⟩ := (hSc.same s1).ex
  have hS1 := SqT.same s1 hS
  refine ⟨_, rfl, a, _, 2, _, rfl, rfl, hS1, rfl, _, rfl, sa, _, dx, _, _, rfl, e, T.l_Scope, T.n_Scope_words, scF_words .., aw, _, rfl, .inr h1, rfl, L2.flat_strs _, _, rfl, if_false_of (by show (!inV _ _) = false; rw [in_of hc]; rfl) ?_⟩
  obtain ⟨ay, xy, rfl, hy1, _⟩ := Dp.tup_inv (Dp.same s1 hy)
  obtain ⟨an, xn, rfl, hn1, _⟩ := Dp.tup_inv (Dp.same s1 hn)
  refine ⟨_, rfl, a, _, 3, _, rfl, rfl, hS1, rfl, .ref ay, .ty "tuple", .type "tuple", .type "tuple", true, rfl, .ty _, ty_tup hy1, kit_ty (by decide +kernel), _, rfl, iteT ?_⟩
  exact ⟨_, rfl, a, _, 4, _, rfl, rfl, hS1, rfl, .ref an, .ty "tuple", .type "tuple", .type "tuple", true, rfl, .ty _, ty_tup hn1, kit_ty (by decide +kernel), q H1 s1⟩
/-- which function judges a row -/
def fitF (T : Tops w K mg) : Td.Row → Addr
  | .rd .. => T.a_is_read_row
  | .put .. => T.a_is_put_row
  | .give .. => T.a_is_slot_row
  | .say .. => T.a_is_slot_row
  | .wr .. => T.a_is_write_row
  | .ite .. => T.a_is_if_row
def spCheckOf (T : Tops w K mg) : Sp := fun vs H Q _ => ∃ (S : Sc) (dep : Nat) (r : Td.Row), vs = [.str (kdS S.eff), .str (rowTag r)] ∧ okR S dep r ∧ Q (.ref (fitF T r)) H
theorem ok_check_of (T : Tops w K mg) : FnOk P w K mg base CX0 1 T.a_check_of T.d_check_of ["kind", "form"] (spCheckOf T) := by
  refine T.F_check_of.ok sc_check_of (fun vs H Q E h => ?_) (fun cdv A outer s H vs Q E hr h => ?_)
  · obtain ⟨S, dep, r, rfl, _⟩ := h
    rfl
  obtain ⟨S, dep, r, rfl, hok, q⟩ := h
  refine ⟨_, (pss_cons (ps_if (pt_cmpR op_eq (pv 0) pe_str (nomark _)) (pss_one (ps_ret (pe_kget (pe_glob (v := .ref T.a_DERIVED_FORMS) rfl T.c_DERIVED_FORMS rfl) (pv 1) ⟨rfl, rfl, rfl, rfl⟩))) pss_nil)
    (pss_one (ps_ret (pe_kget (pe_glob (v := .ref T.a_EFFECT_FORMS) rfl T.c_EFFECT_FORMS rfl) (pv 1) ⟨rfl, rfl, rfl, rfl⟩)))), ?_⟩
  refine ⟨_, rfl, rfl, _, rfl, ?_⟩
  obtain ⟨eff, ws, so, rd⟩ := S
  cases eff with
  | false =>
    refine if_true_of (by show decide (V.str "derived" = V.str "derived") = true; decide +kernel) ?_
    refine ⟨T.a_DERIVED_FORMS, rfl, T.w_DERIVED_FORMS, _, rfl, _, rfl, .inl ⟨_, ?_, q⟩⟩
    cases r with
    | rd pk c s =>
      unfold okR at hok
      cases pk with
      | false => exact T.w_DERIVED_FORMS_read
      | true => exact nomatch hok.1 rfl
    | put s u => exact T.w_DERIVED_FORMS_put
    | give s => exact T.w_DERIVED_FORMS_give
    | say s => unfold okR at hok; exact nomatch hok.1
    | wr c s => unfold okR at hok; exact nomatch hok.1
    | ite s u y n => exact T.w_DERIVED_FORMS_if
  | true =>
    refine if_false_of (by show decide (V.str "effects" = V.str "derived") = false; decide +kernel) ?_
    refine ⟨T.a_EFFECT_FORMS, rfl, T.w_EFFECT_FORMS, _, rfl, _, rfl, .inl ⟨_, ?_, q⟩⟩
    cases r with
    | rd pk c s =>
      cases pk with
      | false => exact T.w_EFFECT_FORMS_read
      | true => exact T.w_EFFECT_FORMS_peek
    | put s u => exact T.w_EFFECT_FORMS_put
    | give s => unfold okR at hok; exact nomatch hok.1
    | say s => exact T.w_EFFECT_FORMS_say
    | wr c s => exact T.w_EFFECT_FORMS_write
    | ite s u y n => exact T.w_EFFECT_FORMS_if
end
end K77
namespace K77
open PySem PySem.Spec PyProof.Rows L2 Td
def fitS (K : PySem.W.Frag) {w : World} {mg : Str → Option Value} (T : Tops w K mg) : Addr → Sp → Prop := fun f sp =>
  (f = T.a_is_read_row ∧ sp = spRead K T.c_Scope) ∨ (f = T.a_is_put_row ∧ sp = spPut K T.c_Scope) ∨ (f = T.a_is_slot_row ∧ sp = spSlot K T.c_Scope) ∨ (f = T.a_is_write_row ∧ sp = spWrite K T.c_Scope) ∨ (f = T.a_is_if_row ∧ sp = spIf K T.c_Scope)
def spValid (K : PySem.W.Frag) (C : Addr) : Sp := fun vs H Q _ => ∃ (v : V) (sa : Addr) (S : Sc) (dep : Nat) (r : Td.Row), vs = [v, .ref sa, .int (dep : Nat)] ∧ Dp K H v (rowD r) ∧ ScopeAt K H C sa S ∧ okR S dep r ∧ ∀ H', Same H H' → Q (.bl true) H'
def spFirst (K : PySem.W.Frag) (C : Addr) (n : Nat) : Sp := fun vs H Q _ => ∃ (v : V) (sa b : Addr) (bs : List V) (S : Sc) (dep : Nat) (rs : List Td.Row), vs = [v, .ref sa, .ref b, .int (dep : Nat)] ∧ Dp K H v (.tuple (rowsD rs)) ∧ ScopeAt K H C sa S ∧
  SqT K H b bs ∧ bs.length ≤ 2 + 2 * dep ∧ bs ≠ [] ∧ okRs S dep rs ∧ dep ≤ 4 ∧ 5 ≤ dep + n ∧ ∀ H', Same H H' → Q .non H'
def spPaths (K : PySem.W.Frag) (n : Nat) : Sp := fun vs H Q _ => ∃ (v : V) (b : Addr) (bs : List V) (S : Sc) (dep : Nat) (rs : List Td.Row), vs = [v, .ref b] ∧ Dp K H v (.tuple (rowsD rs)) ∧
  SqT K H b bs ∧ bs.length ≤ 2 + 2 * dep ∧ bs ≠ [] ∧ okRs S dep rs ∧ cnts rs ≤ 100 ∧ dep ≤ 4 ∧ 5 ≤ dep + n ∧ ∀ (p : Addr) (xs : List V) H', Same H H' → H p = none → H' p = some (.lst xs) → xs.length = cnts rs → Q (.ref p) H'
def spBody (K : PySem.W.Frag) (C : Addr) : Sp := fun vs H Q _ => ∃ (v : V) (sa : Addr) (S : Sc) (rs : List Td.Row) (i : Int), vs = [v, .ref sa, .int i] ∧ Dp K H v (.tuple (rowsD rs)) ∧ ScopeAt K H C sa S ∧ okRs S 1 rs ∧ cnts rs ≤ 16 ∧
  ∀ H', Same H H' → Q .non H'
section
variable {P : Program} {w : World} {K : PySem.W.Frag} {mg : Str → Option Value} {base : Heap}
theorem fit_held (T : Tops w K mg)
    (G1 : FnOk P w K mg base CX0 2 T.a_is_read_row T.d_is_read_row ["row", "scope"] (spRead K T.c_Scope))
    (G2 : FnOk P w K mg base CX0 2 T.a_is_put_row T.d_is_put_row ["row", "scope"] (spPut K T.c_Scope))
    (G3 : FnOk P w K mg base CX0 2 T.a_is_slot_row T.d_is_slot_row ["row", "scope"] (spSlot K T.c_Scope))
    (G4 : FnOk P w K mg base CX0 2 T.a_is_write_row T.d_is_write_row ["row", "scope"] (spWrite K T.c_Scope))
    (G5 : FnOk P w K mg base CX0 2 T.a_is_if_row T.d_is_if_row ["row", "scope"] (spIf K T.c_Scope)) : ∀ f sp, fitS K T f sp → Held P w K mg base 2 f sp := by
  rintro f sp (⟨rfl, rfl⟩ | ⟨rfl, rfl⟩ | ⟨rfl, rfl⟩ | ⟨rfl, rfl⟩ | ⟨rfl, rfl⟩)
  · exact ⟨_, _, G1, T.F_is_read_row.kp, T.b_is_read_row⟩
  · exact ⟨_, _, G2, T.F_is_put_row.kp, T.b_is_put_row⟩
  · exact ⟨_, _, G3, T.F_is_slot_row.kp, T.b_is_slot_row⟩
  · exact ⟨_, _, G4, T.F_is_write_row.kp, T.b_is_write_row⟩
  · exact ⟨_, _, G5, T.F_is_if_row.kp, T.b_is_if_row⟩
theorem ok_valid (T : Tops w K mg) (hA : ∀ f sp, fitS K T f sp → Held P w K mg base 2 f sp)
    (G_check_of : FnOk P w K mg base CX0 1 T.a_check_of T.d_check_of ["kind", "form"] (spCheckOf T)) :
    FnOk P w K mg base CX0 3 T.a_is_valid_row T.d_is_valid_row ["row", "scope", "depth"] (spValid K T.c_Scope) := by
  refine T.F_is_valid_row.ok sc_is_valid_row (fun vs H Q E h => ?_) (fun cdv A outer s H vs Q E hr h => ?_)
  · obtain ⟨v, sa, S, dep, r, rfl, _⟩ := h
    rfl
  obtain ⟨v, sa, S, dep, r, rfl, hD, hSc, ok, q⟩ := h
  obtain ⟨a, xs, rfl, hS, h0⟩ := row_at hD
  obtain ⟨dx, aw, as, ar, e, h1, h2, h3⟩ := hSc.ex
  refine ⟨_, (pss_cons (ps_if (PW.pt (pw_or (pt_not (pt_val (pe_callB call_isi rfl T.z_isinstance (by decide +kernel) (pa_cons (pv 0) (pa_cons (pe_bltn (v := .ty "tuple") rfl T.z_tuple (by decide +kernel) rfl) pa_nil))))) (pw_or (pt_cmpR op_eq (pe_callB call_len rfl T.z_len PySem.boot_len (pa_cons (pv 0) pa_nil)) pe_int (nomark _)) (pw_or1 (pt_not (pt_val (pe_callB call_isi rfl T.z_isinstance (by decide +kernel) (pa_cons (pe_ix ix_tup (pv 0) pe_int (fun _ _ => rfl)) (pa_cons (pe_bltn (v := .ty "str") rfl T.z_str (by decide +kernel) rfl) pa_nil))))))))) (pss_one (ps_ret pe_bl)) pss_nil)
    (C8.pss_cut (ps_if (PW.pt (pw_and (pt_cmpR op_eq (pe_ix ix_tup (pv 0) pe_int (fun _ _ => rfl)) pe_str (nomark _)) (pw_and1 (pt_cmpR op_gt (pv 2) (pe_glob (v := .int 3) rfl T.c_DEEPEST_IF ⟨_, rfl⟩) (nomark _))))) (pss_one (ps_ret pe_bl)) pss_nil)
    (pss_cons (ps_set (i := 3) sc_is_valid_row.nd rfl (Or.inl rfl) (pe_call G_check_of (hr.mono (by omega)) rfl T.m_check_of T.F_check_of.kp T.b_check_of .nil pass0 (pa_cons (pe_fld (pv 1) rfl) (pa_cons (pe_ix ix_tup (pv 0) pe_int (fun _ _ => rfl)) pa_nil))))
    (pss_one (ps_ret (pe_and (pe_cmpR op_notN (pv 3) pe_non (nomark _)) (pe_one (pe_callR (i := 3) (S := fitS K T) hA (hr.mono (by omega)) rfl (Or.inl rfl) (pa_cons (pv 0) (pa_cons (pv 1) pa_nil)))))))))), ?_⟩
  have hx : 0 < xs.length := (List.getElem?_eq_some_iff.mp h0).1
  have a0 : atI xs 0 = some (.str (rowTag r)) := atI_nat (j := 0) h0
  refine ⟨_, rfl, .ref a, .ty "tuple", .type "tuple", .type "tuple", true, rfl, .ty _, ty_tup hS, kit_ty (by decide +kernel), true, rfl, iteF ?_⟩
  refine ⟨_, rfl, .ref a, _, rfl, .inr ⟨_, hS, rfl⟩, rfl, _, rfl, if_false_of (decide_eq_false (fun h => by injection h; omega)) ?_⟩
  refine ⟨_, rfl, a, _, 0, _, rfl, rfl, hS, a0, .str (rowTag r), .ty "str", .type "str", .type "str", true, rfl, .ty _, .base (.str _), kit_ty (by decide +kernel), true, rfl, if_false_of rfl ?_⟩
  refine ⟨fun σ' H' => H' = H ∧ σ' = [some (.ref a), some (.ref sa), some (.int (dep : Nat)), none], ?_, ?_⟩
  · refine ⟨_, rfl, a, _, 0, _, rfl, rfl, hS, a0, rfl, _, rfl, ?_⟩
    cases hi : isIte r with
    | false => exact if_false_of ((tag_if r).trans hi) (iteF ⟨rfl, rfl⟩)
    | true =>
      refine if_true_of ((tag_if r).trans hi) ?_
      have h3' : dep ≤ 3 := by
        cases r with
        | ite s u y n => unfold okR at ok; exact ok.1
        | _ => cases hi
      refine ⟨_, rfl, _, _, rfl, rfl, _, rfl, if_false_of (decide_eq_false (by omega)) ⟨rfl, rfl⟩⟩
  rintro σ' H' ⟨rfl, rfl⟩
  refine ⟨_, rfl, sa, _, dx, _, _, rfl, e, T.l_Scope, T.n_Scope_kind, scF_kind .., _, rfl, a, _, 0, _, rfl, rfl, hS, a0, S, dep, r, rfl, ok, ?_⟩
  refine ⟨_, rfl, rfl, _, rfl, if_true_of (by rfl) ?_⟩
  cases r with
  | rd pk c s => unfold okR at ok; exact ⟨_, _, rfl, .inl ⟨rfl, rfl⟩, _, rfl, _, rfl, _, sa, S, pk, c, s, rfl, hD, hSc, ok.2.1, ok.2.2, q⟩
  | put s u => unfold okR at ok; exact ⟨_, _, rfl, .inr (.inl ⟨rfl, rfl⟩), _, rfl, _, rfl, _, sa, S, s, u, rfl, hD, hSc, ok.2, ok.1, q⟩
  | give s => unfold okR at ok; exact ⟨_, _, rfl, .inr (.inr (.inl ⟨rfl, rfl⟩)), _, rfl, _, rfl, _, sa, S, true, s, rfl, hD, hSc, ok.2, q⟩
  | say s => unfold okR at ok; exact ⟨_, _, rfl, .inr (.inr (.inl ⟨rfl, rfl⟩)), _, rfl, _, rfl, _, sa, S, false, s, rfl, hD, hSc, ok.2, q⟩
  | wr c s => unfold okR at ok; exact ⟨_, _, rfl, .inr (.inr (.inr (.inl ⟨rfl, rfl⟩))), _, rfl, _, rfl, _, sa, S, c, s, rfl, hD, hSc, ok.2.1, ok.2.2, q⟩
  | ite s u y n => unfold okR at ok; exact ⟨_, _, rfl, .inr (.inr (.inr (.inr ⟨rfl, rfl⟩))), _, rfl, _, rfl, _, sa, S, s, u, y, n, rfl, hD, hSc, ok.2.2.1, ok.2.1, q⟩
theorem ok_first1 (T : Tops w K mg) {n : Nat} (hn3 : 3 ≤ n) (G_is_valid_row : FnOk P w K mg base CX0 3 T.a_is_valid_row T.d_is_valid_row ["row", "scope", "depth"] (spValid K T.c_Scope))
    (G_first_wrong_path : FnOk P w K mg base CX0 n T.a_first_wrong_path T.d_first_wrong_path ["rows", "scope", "base", "depth"] (spFirst K T.c_Scope (n - 3))) :
    FnOk P w K mg base CX0 (n + 1) T.a_first_wrong_path T.d_first_wrong_path ["rows", "scope", "base", "depth"] (spFirst K T.c_Scope (n - 3 + 1)) := by
  refine T.F_first_wrong_path.ok sc_first_wrong_path (fun vs H Q E h => ?_) (fun cdv A outer s H vs Q E hr h => ?_)
  · obtain ⟨v, sa, b, bs, S, dep, rs, rfl, _⟩ := h
    rfl
  obtain ⟨v, sa, b, bs, S, dep, rs, rfl, hD, hSc, hB, hbl, hb0, ok, hdep, hn, q⟩ := h
  obtain ⟨a, xs, rfl, hS, hl, hx⟩ := rows_at hD
  refine ⟨_, (pss_cons (ps_for PassesOwn.never rfl (pi_enumT rfl T.z_enumerate (pa_cons (pv 0) pa_nil)) (pg_tup rfl (pgs_cons (pg_name (i := 4) sc_first_wrong_path.nd rfl (Or.inl rfl)) (pgs_cons (pg_name (i := 5) sc_first_wrong_path.nd rfl (Or.inl rfl)) pgs_nil))) (pss_cons (ps_set (i := 6) sc_first_wrong_path.nd rfl (Or.inl rfl) (pe_op op_catA (pv 2) (pe_tup (pa_cons (pv 4) pa_nil))))
    (pss_cons (ps_if (pt_not (pt_val (pe_call G_is_valid_row (hr.mono (by omega)) rfl T.m_is_valid_row T.F_is_valid_row.kp T.b_is_valid_row .nil pass0 (pa_cons (pv 5) (pa_cons (pv 1) (pa_cons (pv 3) pa_nil)))))) (pss_one (ps_ret (pv 6))) pss_nil)
    (pss_one (ps_if (pt_cmpR op_eq (pe_ix ix_tup (pv 5) pe_int (fun _ _ => rfl)) pe_str (nomark _)) (pss_one (ps_for PassesOwn.never rfl (pi_tup (pe_tup (pa_cons pe_int (pa_cons pe_int pa_nil)))) (pg_name (i := 7) sc_first_wrong_path.nd rfl (Or.inl rfl)) (pss_cons (ps_set (i := 8) sc_first_wrong_path.nd rfl (Or.inl rfl) (pe_call G_first_wrong_path (hr.mono (by omega)) rfl T.m_first_wrong_path T.F_first_wrong_path.kp T.b_first_wrong_path .nil pass0 (pa_cons (pe_ix ix_tup (pv 5) (pe_op op_add pe_int (pv 7)) (fun _ _ => rfl)) (pa_cons (pv 1) (pa_cons (pe_op op_catA (pv 6) (pe_tup (pa_cons (pv 7) pa_nil))) (pa_cons (pe_op op_add (pv 3) pe_int) pa_nil))))))
    (pss_one (ps_if (pt_cmpR op_notN (pv 8) pe_non (nomark _)) (pss_one (ps_ret (pv 8))) pss_nil))))) pss_nil)))))
    (pss_one (ps_ret pe_non))), ?_⟩
  refine ⟨_, rfl, a, _, rfl, hS, for_enumT (K := K) (a := a) (xs := xs) (fun i σ H' => ∃ v4 v5 v6 v7 v8 : Option V, σ = [some (.ref a), some (.ref sa), some (.ref b), some (.int (dep : Nat)), v4, v5, v6, v7, v8] ∧ Same H H')
    ⟨none, none, none, none, none, rfl, Same.refl _⟩ (fun i σ H' _ ⟨_, _, _, _, _, _, hs⟩ => SqT.same hs hS) ?_ ?_⟩
  · rintro i x σ H1 t hi ⟨v4, v5, v6, v7, v8, rfl, hs⟩ ht
    obtain ⟨r, hr2, hDr⟩ := hx i x hi
    have okr := okRs_get ok hr2
    have hs1 : Same H (upd H1 t (.tup [.int (i : Nat), x])) := hs.trans (Same.new ht _)
    refine ⟨t, _, rfl, SqT.of upd_same, rfl, _, _, rfl, _, _, rfl, rfl, ?_⟩
    generalize upd H1 t (.tup [.int (i : Nat), x]) = H2 at hs1
    -- path = base + (place,)
    refine ⟨_, rfl, _, rfl, by show 1 ≤ sizeLine; decide, fun t1 ht1 => ?_⟩
    have hs2 := hs1.trans (Same.new ht1 (.tup [.int (i : Nat)]))
    refine ⟨b, t1, bs, _, rfl, rfl, SqT.same hs2 hB, SqT.of upd_same, Nat.le_of_lt (small1000 (by show bs.length + 1 ≤ 1000; omega)), fun e => absurd e hb0, fun _ e => (by cases e), fun _ _ pa hpa => ?_⟩
    have hs3 := hs2.trans (Same.new hpa (.tup (bs ++ [.int (i : Nat)])))
    have hP : SqT K (upd (upd H2 t1 (.tup [.int (i : Nat)])) pa (.tup (bs ++ [.int (i : Nat)]))) pa (bs ++ [.int (i : Nat)]) := SqT.of upd_same
    show tSeq _ _ _ _ (upd (upd H2 t1 (.tup [.int (i : Nat)])) pa (.tup (bs ++ [.int (i : Nat)])))
    generalize upd (upd H2 t1 (.tup [.int (i : Nat)])) pa (.tup (bs ++ [.int (i : Nat)])) = H3 at hs3 hP
    -- is_valid_row
    refine ⟨_, rfl, _, rfl, _, rfl, _, sa, S, dep, r, rfl, Dp.same hs3 hDr, hSc.same hs3, okr, fun H4 s4 => ⟨_, rfl, if_false_of rfl ?_⟩⟩
    have hs4 := hs3.trans s4
    cases hi2 : isIte r with
    | false =>
      obtain ⟨ar, ys, rfl, hSr, h0⟩ := row_at (Dp.same hs4 hDr)
      refine ⟨_, rfl, ar, _, 0, _, rfl, rfl, hSr, atI_nat (j := 0) h0, rfl, _, rfl, ?_⟩
      exact if_false_of ((tag_if r).trans hi2) ⟨_, _, _, v7, v8, rfl, hs4⟩
    | true =>
      cases r with
      | ite sl u y n' =>
        obtain ⟨ar, vy, vn, rfl, hSr, hy, hn'⟩ := ite_at (Dp.same hs4 hDr)
        unfold okR at okr
        refine ⟨_, rfl, ar, _, 0, _, rfl, rfl, hSr, rfl, rfl, _, rfl, ?_⟩
        refine if_true_of (by decide +kernel) ?_
        refine ⟨by show 2 ≤ sizeLine; decide, fun tb htb => ?_⟩
        have hs5 := Same.new htb (.tup [.int 0, .int 1])
        refine ⟨tb, rfl, ⟨_, SqT.of upd_same⟩, for_tup (K := K) (a := tb) (xs := [.int 0, .int 1]) (fun j σ H' => ∃ v7 v8 : Option V, σ = [some (.ref a), some (.ref sa), some (.ref b), some (.int (dep : Nat)), some (.int (i : Nat)), some (.ref ar), some (.ref pa), v7, v8] ∧ Same (upd H4 tb (.tup [.int 0, .int 1])) H')
          ⟨v7, v8, rfl, Same.refl _⟩ (fun j σ H' _ ⟨_, _, _, h⟩ => SqT.of (h _ _ upd_same)) ?_ ?_⟩
        · rintro j x σ H5 hj ⟨v7, v8, rfl, h5⟩
          have h45 := hs5.trans h5
          have h05 := hs4.trans h45
          obtain ⟨k, vk, rk, rfl, hk, hDk, okk⟩ : ∃ (k : Nat) (vk : V) (rk : List Td.Row), x = .int (k : Nat) ∧ atI [V.str "if", .str sl, .str u, vy, vn] (3 + (k : Int)) = some vk ∧ Dp K H4 vk (.tuple (rowsD rk)) ∧ okRs S (dep + 1) rk := by
            match j, hj with
            | 0, hj => cases hj; exact ⟨0, vy, y, rfl, rfl, hy, okr.2.2.2.1⟩
            | 1, hj => cases hj; exact ⟨1, vn, n', rfl, rfl, hn', okr.2.2.2.2⟩
            | j + 2, hj => simp at hj
          refine ⟨_, rfl, _, rfl, _, _, rfl, rfl, ar, _, _, _, rfl, rfl, SqT.same h45 hSr, hk, _, rfl, _, rfl, _, rfl, by show 1 ≤ sizeLine; decide, fun t2 ht2 => ?_⟩
          have s52 := Same.new ht2 (.tup [.int (k : Nat)])
          have hP5 := SqT.same ((s4.trans h45).trans s52) hP
          refine ⟨pa, t2, _, _, rfl, rfl, hP5, SqT.of upd_same, Nat.le_of_lt (small1000 (by rw [List.length_append]; show bs.length + 1 + 1 ≤ 1000; omega)), fun e => (by simp at e), fun _ e => (by cases e), fun _ _ t3 ht3 => ?_⟩
          have s53 := s52.trans (Same.new ht3 (.tup (bs ++ [.int (i : Nat)] ++ [.int (k : Nat)])))
          refine ⟨_, rfl, _, _, rfl, rfl, vk, sa, t3, _, S, dep + 1, rk, rfl, Dp.same (h45.trans s53) hDk, hSc.same (h05.trans s53), SqT.of upd_same, by simp; omega, by simp, okk, by omega, by omega, fun H6 s6 => ?_⟩
          refine ⟨_, rfl, rfl, _, rfl, if_false_of rfl ⟨_, _, rfl, h5.trans (s53.trans s6)⟩⟩
        · rintro σ H5 ⟨v7, v8, rfl, h5⟩
          exact ⟨_, _, _, v7, v8, rfl, hs4.trans (hs5.trans h5)⟩
      | _ => cases hi2
  · rintro σ H1 ⟨v4, v5, v6, v7, v8, rfl, hs⟩
    exact q H1 hs
theorem ok_first (T : Tops w K mg) (G1 : FnOk P w K mg base CX0 3 T.a_is_valid_row T.d_is_valid_row ["row", "scope", "depth"] (spValid K T.c_Scope)) :
    ∀ k, FnOk P w K mg base CX0 (k + 3) T.a_first_wrong_path T.d_first_wrong_path ["rows", "scope", "base", "depth"] (spFirst K T.c_Scope k)
  | 0 => by
    have no : ∀ vs H Q E, ¬ spFirst K T.c_Scope 0 vs H Q E := fun vs H Q E h => by
      obtain ⟨_, _, _, _, _, dep, _, _, _, _, _, _, _, _, h1, h2, _⟩ := h
      omega
    exact ⟨fun vs H Q E h => absurd h (no vs H Q E), fun A outer s H args us vs Q E _ _ _ _ h => absurd h (no vs H Q E)⟩
  | k + 1 => ok_first1 T (n := k + 3) (by omega) G1 (ok_first T G1 k)
end
end K77
namespace K77
open PySem PySem.Spec PyProof.Rows L2 Td
theorem Same.own {H H' : Hp} {p : Addr} {o : HO} (k : Same H H') (h : H p = none) : Same H (upd H' p o) := fun b u e => by
  rw [upd_ne (ne_of_none e h)]; exact k b u e
theorem cnts_get {rs : List Td.Row} {i : Nat} {r : Td.Row} (h : rs[i]? = some r) : cnt r + cnts (rs.take i) ≤ cnts rs := by
  have e : cnts rs = cnts (rs.take (i + 1)) + cnts (rs.drop (i + 1)) := by rw [← cnts_append, List.take_append_drop]
  rw [e, cnts_take h]; omega
section
variable {P : Program} {w : World} {K : PySem.W.Frag} {mg : Str → Option Value} {base : Heap}
theorem ok_paths1 (T : Tops w K mg) {n : Nat} (G_paths_of_rows : FnOk P w K mg base CX0 n T.a_paths_of_rows T.d_paths_of_rows ["rows", "base"] (spPaths K n)) :
    FnOk P w K mg base CX0 (n + 1) T.a_paths_of_rows T.d_paths_of_rows ["rows", "base"] (spPaths K (n + 1)) := by
  refine T.F_paths_of_rows.ok sc_paths_of_rows (fun vs H Q E h => ?_) (fun cdv A outer s H vs Q E hr h => ?_)
  · obtain ⟨v, b, bs, S, dep, rs, rfl, _⟩ := h
    rfl
  obtain ⟨v, b, bs, S, dep, rs, rfl, hD, hB, hbl, hb0, ok, hcn, hdep, hn, q⟩ := h
  obtain ⟨a, xs, rfl, hS, hl, hx⟩ := rows_at hD
  refine ⟨_, (pss_cons (ps_set (i := 2) sc_paths_of_rows.nd rfl (Or.inl rfl) (pe_lst pa_nil))
    (pss_cons (ps_for PassesOwn.never rfl (pi_enumT rfl T.z_enumerate (pa_cons (pv 0) pa_nil)) (pg_tup rfl (pgs_cons (pg_name (i := 3) sc_paths_of_rows.nd rfl (Or.inl rfl)) (pgs_cons (pg_name (i := 4) sc_paths_of_rows.nd rfl (Or.inl rfl)) pgs_nil))) (pss_cons (ps_set (i := 5) sc_paths_of_rows.nd rfl (Or.inl rfl) (pe_op op_catA (pv 1) (pe_tup (pa_cons (pv 3) pa_nil))))
    (pss_cons (ps_expr (pe_bm PySem.F.plainAttrs_list PySem.F.slot_list_append PySem.F.type_list_append mt_append (pv 2) (pa_cons (pv 5) pa_nil)))
    (pss_one (ps_if (pt_cmpR op_eq (pe_ix ix_tup (pv 4) pe_int (fun _ _ => rfl)) pe_str (nomark _)) (pss_one (ps_for PassesOwn.never rfl (pi_tup (pe_tup (pa_cons pe_int (pa_cons pe_int pa_nil)))) (pg_name (i := 6) sc_paths_of_rows.nd rfl (Or.inl rfl)) (pss_one (ps_expr (pe_bm PySem.F.plainAttrs_list PySem.F.slot_list_extend PySem.F.type_list_extend mt_extend (pv 2) (pa_cons (pe_call G_paths_of_rows (hr.mono (by omega)) rfl T.m_paths_of_rows T.F_paths_of_rows.kp T.b_paths_of_rows .nil pass0 (pa_cons (pe_ix ix_tup (pv 4) (pe_op op_add pe_int (pv 6)) (fun _ _ => rfl)) (pa_cons (pe_op op_catA (pv 5) (pe_tup (pa_cons (pv 6) pa_nil))) pa_nil))) pa_nil)))))) pss_nil)))))
    (pss_one (ps_ret (pv 2))))), ?_⟩
  refine ⟨by show 0 ≤ sizeLine; decide, fun p hp => ?_⟩
  refine ⟨_, rfl, a, _, rfl, SqT.same (Same.new hp _) hS, for_enumT (K := K) (a := a) (xs := xs) (fun i σ H' => ∃ (v4 v5 v6 v7 : Option V) (ys : List V), σ = [some (.ref a), some (.ref b), some (.ref p), v4, v5, v6, v7] ∧ Same H H' ∧ H' p = some (.lst ys) ∧ ys.length = cnts (rs.take i))
    ⟨none, none, none, none, [], rfl, Same.new hp _, upd_same, rfl⟩ (fun i σ H' _ ⟨_, _, _, _, _, _, hs, _⟩ => SqT.same hs hS) ?_ ?_⟩
  · rintro i x σ H1 t hi ⟨v4, v5, v6, v7, ys, rfl, hs, hy, hyl⟩ ht
    obtain ⟨r, hr2, hDr⟩ := hx i x hi
    have okr := okRs_get ok hr2
    have hcr := cnts_get hr2
    have hs1 : Same H (upd H1 t (.tup [.int (i : Nat), x])) := hs.trans (Same.new ht _)
    have hy1 : upd H1 t (.tup [.int (i : Nat), x]) p = some (.lst ys) := Same.new ht _ _ _ hy
    refine ⟨t, _, rfl, SqT.of upd_same, rfl, _, _, rfl, _, _, rfl, rfl, ?_⟩
    generalize upd H1 t (.tup [.int (i : Nat), x]) = H2 at hs1 hy1
    refine ⟨_, rfl, _, rfl, by show 1 ≤ sizeLine; decide, fun t1 ht1 => ?_⟩
    have hs2 := hs1.trans (Same.new ht1 (.tup [.int (i : Nat)]))
    have hy2 := Same.new ht1 (.tup [.int (i : Nat)]) _ _ hy1
    refine ⟨b, t1, bs, _, rfl, rfl, SqT.same hs2 hB, SqT.of upd_same, Nat.le_of_lt (small1000 (by show bs.length + 1 ≤ 1000; omega)), fun e => absurd e hb0, fun _ e => (by cases e), fun _ _ pa hpa => ?_⟩
    have hs3 := hs2.trans (Same.new hpa (.tup (bs ++ [.int (i : Nat)])))
    have hy3 := Same.new hpa (.tup (bs ++ [.int (i : Nat)])) _ _ hy2
    have hP : SqT K (upd (upd H2 t1 (.tup [.int (i : Nat)])) pa (.tup (bs ++ [.int (i : Nat)]))) pa (bs ++ [.int (i : Nat)]) := SqT.of upd_same
    show tSeq _ _ _ _ (upd (upd H2 t1 (.tup [.int (i : Nat)])) pa (.tup (bs ++ [.int (i : Nat)])))
    generalize upd (upd H2 t1 (.tup [.int (i : Nat)])) pa (.tup (bs ++ [.int (i : Nat)])) = H3 at hs3 hP hy3
    -- append
    have hyb : ys.length ≤ 100 := by omega
    refine ⟨_, rfl, .inl ⟨rfl, _, SqL.of hy3⟩, _, rfl, p, ys, _, rfl, rfl, hy3, small1000 (by omega), ?_⟩
    have hs4 : Same H (upd H3 p (.lst (ys ++ [.ref pa]))) := Same.own hs3 hp
    have hP4 : SqT K (upd H3 p (.lst (ys ++ [.ref pa]))) pa (bs ++ [.int (i : Nat)]) := SqT.tk (TK.upd (by rw [hy3]; trivial)) hP
    have hy4 : upd H3 p (.lst (ys ++ [.ref pa])) p = some (.lst (ys ++ [.ref pa])) := upd_same
    have hl4 : (ys ++ [V.ref pa]).length = cnts (rs.take i) + 1 := by rw [List.length_append, hyl]; rfl
    generalize upd H3 p (.lst (ys ++ [.ref pa])) = H4 at hs4 hP4 hy4
    generalize ys ++ [V.ref pa] = ys4 at hy4 hl4
    cases hi2 : isIte r with
    | false =>
      obtain ⟨ar, zs, rfl, hSr, h0⟩ := row_at (Dp.same hs4 hDr)
      refine ⟨_, rfl, ar, _, 0, _, rfl, rfl, hSr, atI_nat (j := 0) h0, rfl, _, rfl, ?_⟩
      exact if_false_of ((tag_if r).trans hi2) ⟨_, _, _, v7, ys4, rfl, hs4, hy4, by rw [cnts_take hr2, cnt_flat hi2, hl4]⟩
    | true =>
      cases r with
      | ite sl u y n' =>
        obtain ⟨ar, vy, vn, rfl, hSr, hyD, hnD⟩ := ite_at hDr
        unfold okR at okr
        have ecn : Td.cnt (Td.Row.ite sl u y n') = 1 + cnts y + cnts n' := by unfold Td.cnt; rfl
        refine ⟨_, rfl, ar, _, 0, _, rfl, rfl, SqT.same hs4 hSr, rfl, rfl, _, rfl, ?_⟩
        refine if_true_of (by decide +kernel) ?_
        refine ⟨by show 2 ≤ sizeLine; decide, fun tb htb => ?_⟩
        have hs5 := Same.new htb (.tup [.int 0, .int 1])
        have htbS : SqT K (upd H4 tb (.tup [.int 0, .int 1])) tb [.int 0, .int 1] := SqT.of upd_same
        have hP5 := SqT.same hs5 hP4
        have hy5 := hs5 _ _ hy4
        have hs05 := hs4.trans hs5
        generalize upd H4 tb (.tup [.int 0, .int 1]) = H5 at hs5 htbS hP5 hy5 hs05
        refine ⟨tb, rfl, ⟨_, htbS⟩, for_tup (K := K) (a := tb) (xs := [.int 0, .int 1]) (fun j σ H' => ∃ (v7 : Option V) (zs : List V), σ = [some (.ref a), some (.ref b), some (.ref p), some (.int (i : Nat)), some (.ref ar), some (.ref pa), v7] ∧ Same H H' ∧ TK H5 H' ∧ H' p = some (.lst zs) ∧ zs.length = cnts (rs.take i) + 1 + (if j = 0 then 0 else cnts y) + (if j = 2 then cnts n' else 0))
          ⟨v7, ys4, rfl, hs05, TK.refl _, hy5, by rw [hl4]; simp⟩ (fun j σ H' _ ⟨_, _, _, _, tk, _⟩ => SqT.tk tk htbS) ?_ ?_⟩
        · rintro j x σ H6 hj ⟨v7, zs, rfl, h06, tk, hy6, hl6⟩
          have D1 : Dp K H6 vy (.tuple (rowsD y)) := Dp.same h06 hyD
          have D2 : Dp K H6 vn (.tuple (rowsD n')) := Dp.same h06 hnD
          obtain ⟨k, vk, rk, rfl, hk, hDk, okk, hck, hle, hjk⟩ : ∃ (k : Nat) (vk : V) (rk : List Td.Row), x = .int (k : Nat) ∧ atI [V.str "if", .str sl, .str u, vy, vn] (3 + (k : Int)) = some vk ∧ Dp K H6 vk (.tuple (rowsD rk)) ∧ okRs S (dep + 1) rk ∧ cnts rk ≤ 100 ∧ zs.length + cnts rk ≤ 100 ∧
              zs.length + cnts rk = cnts (rs.take i) + 1 + (if j + 1 = 0 then 0 else cnts y) + (if j + 1 = 2 then cnts n' else 0) := by
            match j, hj with
            | 0, hj => cases hj; exact ⟨0, vy, y, rfl, rfl, D1, okr.2.2.2.1, by omega, by rw [hl6]; simp; omega, by rw [hl6]; simp⟩
            | 1, hj => cases hj; exact ⟨1, vn, n', rfl, rfl, D2, okr.2.2.2.2, by omega, by rw [hl6]; simp; omega, by rw [hl6]; simp⟩
            | j + 2, hj => simp at hj
          refine ⟨_, rfl, .inl ⟨rfl, _, SqL.of hy6⟩, ?_⟩
          refine ⟨_, rfl, _, rfl, _, _, rfl, rfl, ar, _, _, _, rfl, rfl, SqT.same h06 hSr, hk, _, rfl, _, rfl, by show 1 ≤ sizeLine; decide, fun t2 ht2 => ?_⟩
          have s62 := Same.new ht2 (.tup [.int (k : Nat)])
          have hP6 := SqT.same s62 (SqT.tk tk hP5)
          refine ⟨pa, t2, _, _, rfl, rfl, hP6, SqT.of upd_same, Nat.le_of_lt (small1000 (by rw [List.length_append]; show bs.length + 1 + 1 ≤ 1000; omega)), fun e => (by simp at e), fun _ e => (by cases e), fun _ _ t3 ht3 => ?_⟩
          have s63 := s62.trans (Same.new ht3 (.tup (bs ++ [.int (i : Nat)] ++ [.int (k : Nat)])))
          refine ⟨vk, t3, _, S, dep + 1, rk, rfl, Dp.same s63 hDk, SqT.of upd_same, by simp; omega, by simp, okk, hck, by omega, by omega, fun p2 ws H7 s7 hp2 hw hwl => ?_⟩
          have hy7 := s7 _ _ (s63 _ _ hy6)
          have hn2 : p ≠ p2 := ne_of_none (s63 _ _ hy6) hp2
          refine ⟨p, p2, zs, ws, rfl, rfl, hy7, hw, Nat.le_of_lt (small1000 (by omega)), ?_⟩
          refine ⟨_, _, rfl, Same.own ((h06.trans s63).trans s7) hp, ?_, upd_same, ?_⟩
          · exact (tk.trans (TK.of_same (s63.trans s7))).trans (TK.upd (by rw [hy7]; trivial))
          · rw [List.length_append, hwl]; exact hjk
        · rintro σ H6 ⟨v7, zs, rfl, h06, tk, hy6, hl6⟩
          refine ⟨_, _, _, v7, zs, rfl, h06, hy6, ?_⟩
          rw [hl6, cnts_take hr2, ecn]
          simp
          omega
      | _ => cases hi2
  · rintro σ H1 ⟨v4, v5, v6, v7, ys, rfl, hs, hy, hyl⟩
    rw [hl, List.take_length] at hyl
    exact ⟨_, rfl, q p ys H1 hs hp hy hyl⟩
theorem ok_paths (T : Tops w K mg) : ∀ k, FnOk P w K mg base CX0 k T.a_paths_of_rows T.d_paths_of_rows ["rows", "base"] (spPaths K k)
  | 0 => by
    have no : ∀ vs H Q E, ¬ spPaths K 0 vs H Q E := fun vs H Q E h => by
      obtain ⟨_, _, _, _, dep, _, _, _, _, _, _, _, _, h1, h2, _⟩ := h
      omega
    exact ⟨fun vs H Q E h => absurd h (no vs H Q E), fun A outer s H args us vs Q E _ _ _ _ h => absurd h (no vs H Q E)⟩
  | k + 1 => ok_paths1 T (ok_paths T k)
end
end K77
namespace K77
open PySem PySem.Spec PyProof.Rows L2 Td
theorem cat_all {K : PySem.W.Frag} {H : Hp} {a b : Addr} {xs ys : List V} {Q : V → Hp → Prop} (hA : SqT K H a xs) (hB : SqT K H b ys) (hl : xs.length + ys.length ≤ sizeLine)
    (k : ∀ (p : Addr) H', Same H H' → SqT K H' p (xs ++ ys) → Q (.ref p) H') : rCatA K (.ref a) (.ref b) H Q := by
  refine ⟨a, b, xs, ys, rfl, rfl, hA, hB, hl, fun e => ?_, fun _ e => ?_, fun _ _ p hp => ?_⟩
  · subst e; exact k b H (Same.refl _) hB
  · subst e; exact k a H (Same.refl _) (by rw [List.append_nil]; exact hA)
  · exact k p _ (Same.new hp _) (SqT.of upd_same)
theorem okDer_get {words sources : List Str} {most : Nat} : ∀ {ps : List (Str × List Td.Row)} {rd : List Str} {i : Nat} {q : Str × List Td.Row}, okDer words sources most rd ps → ps[i]? = some q →
    okRs ⟨false, words, sources, rd ++ (ps.take i).map (·.1)⟩ 1 q.2 ∧ cnts q.2 ≤ most
  | [], rd, i, q, _, h => by simp at h
  | x :: ps, rd, 0, q, h, e => by
    unfold okDer at h
    simp at e; subst e
    exact ⟨by simpa using h.1, h.2.1.1⟩
  | x :: ps, rd, i + 1, q, h, e => by
    unfold okDer at h
    have := okDer_get (i := i) (q := q) h.2.2 (by simpa using e)
    simpa using this
theorem okEff_get {words sources rd : List Str} {most : Nat} : ∀ {ps : List (Str × List Td.Row)} {i : Nat} {q : Str × List Td.Row}, okEff words sources rd most ps → ps[i]? = some q →
    okRs ⟨true, words, sources, rd⟩ 1 q.2 ∧ cnts q.2 ≤ most
  | [], i, q, _, h => by simp at h
  | x :: ps, 0, q, h, e => by
    unfold okEff at h
    simp at e; subst e
    exact ⟨h.1, h.2.1.1⟩
  | x :: ps, i + 1, q, h, e => by
    unfold okEff at h
    exact okEff_get (i := i) (q := q) h.2.2 (by simpa using e)
theorem okDer_lim {words sources : List Str} {most : Nat} : ∀ {ps : List (Str × List Td.Row)} {rd : List Str} {q : Str × List Td.Row}, okDer words sources most rd ps → q ∈ ps → Lim false most q.2
  | [], rd, q, _, h => by cases h
  | x :: ps, rd, q, h, e => by
    unfold okDer at h
    rcases List.mem_cons.mp e with rfl | e
    · exact h.2.1
    · exact okDer_lim h.2.2 e
theorem okEff_lim {words sources rd : List Str} {most : Nat} : ∀ {ps : List (Str × List Td.Row)} {q : Str × List Td.Row}, okEff words sources rd most ps → q ∈ ps → Lim true most q.2
  | [], q, _, h => by cases h
  | x :: ps, q, h, e => by
    unfold okEff at h
    rcases List.mem_cons.mp e with rfl | e
    · exact h.2.1
    · exact okEff_lim h.2.2 e
theorem scope_made {K : PySem.W.Frag} {C x dx aw as ar : Addr} {S : Sc} {H : Hp} (hx : H x = none) (hdx : H dx = none) (hne : dx ≠ x) (h1 : SqT K H aw (S.words.map V.str)) (h2 : SqT K H as (S.sources.map V.str)) (h3 : SqT K H ar (S.readable.map V.str)) :
    ∃ H3, upd (upd (upd H dx (.own x)) x (.ins C dx [])) x (.ins C dx (scF (kdS S.eff) aw as ar)) = H3 ∧ Same H H3 ∧ ScopeAt K H3 C x S := by
  have hs : Same H (upd (upd H dx (.own x)) x (.ins C dx (scF (kdS S.eff) aw as ar))) := (Same.new hdx _).trans (Same.new (by rw [upd_ne (Ne.symm hne)]; exact hx) _)
  exact ⟨_, by rw [upd_upd], hs, ⟨dx, aw, as, ar, upd_same, SqT.same hs h1, SqT.same hs h2, SqT.same hs h3⟩⟩
theorem Tn.same {K : PySem.W.Frag} {H H' : Hp} {v : V} {d : PyData} (s : Same H H') (h : Tn K H v d) : Tn K H' v d := Tn.keep (TK.of_same s) h
/-- what the parts' checks take -/
def spBodies (K : PySem.W.Frag) : Sp := fun vs H Q _ => ∃ (aw as : Addr) (vd ve : V) (p : PP) (m : Nat), vs = [.ref aw, .ref as, vd, ve] ∧ SqT K H aw (p.words.map V.str) ∧ SqT K H as (p.sources.map V.str) ∧ Tn K H vd (pairsD p.derived) ∧ Tn K H ve (pairsD p.effects) ∧
  p.Ok m ∧ m ≤ 16 ∧ ∀ H', Same H H' → Q .non H'
def progF (aw as : Addr) (vd ve : V) (dn en : Addr) : List (Str × V) := [("words", .ref aw), ("sources", .ref as), ("derived", vd), ("effects", ve), ("_derived_names", .ref dn), ("_effect_names", .ref en)]
theorem progF_put (aw as : Addr) (vd ve : V) (dn en : Addr) : putF "_effect_names" (.ref en) (putF "_derived_names" (.ref dn) (putF "effects" ve (putF "derived" vd (putF "sources" (.ref as) (putF "words" (.ref aw) []))))) = progF aw as vd ve dn en := by kernel_rfl
theorem progF_words (aw as : Addr) (vd ve : V) (dn en : Addr) : (progF aw as vd ve dn en).lookup ("words" : Str) = some (.ref aw) := by kernel_rfl
theorem progF_sources (aw as : Addr) (vd ve : V) (dn en : Addr) : (progF aw as vd ve dn en).lookup ("sources" : Str) = some (.ref as) := by kernel_rfl
theorem progF_derived (aw as : Addr) (vd ve : V) (dn en : Addr) : (progF aw as vd ve dn en).lookup ("derived" : Str) = some vd := by kernel_rfl
theorem progF_effects (aw as : Addr) (vd ve : V) (dn en : Addr) : (progF aw as vd ve dn en).lookup ("effects" : Str) = some ve := by kernel_rfl
theorem progF_dn (aw as : Addr) (vd ve : V) (dn en : Addr) : (progF aw as vd ve dn en).lookup ("_derived_names" : Str) = some (.ref dn) := by kernel_rfl
theorem progF_en (aw as : Addr) (vd ve : V) (dn en : Addr) : (progF aw as vd ve dn en).lookup ("_effect_names" : Str) = some (.ref en) := by kernel_rfl
structure ProgAt (K : PySem.W.Frag) (H : Hp) (C pa : Addr) (p : PP) : Prop where
  ex : ∃ (dx aw as : Addr) (vd ve : V), (∃ (dn en : Addr), H pa = some (.ins C dx (progF aw as vd ve dn en)) ∧ SqT K H dn (p.derived.map fun q => V.str q.1) ∧ SqT K H en (p.effects.map fun q => V.str q.1)) ∧ SqT K H aw (p.words.map V.str) ∧ SqT K H as (p.sources.map V.str) ∧ Tn K H vd (pairsD p.derived) ∧ Tn K H ve (pairsD p.effects)
theorem ProgAt.same {K : PySem.W.Frag} {H H' : Hp} {C sa : Addr} {S : PP} (h : ProgAt K H C sa S) (s : Same H H') : ProgAt K H' C sa S := by
  obtain ⟨dx, aw, as, vd, ve, ⟨dn, en, e, hdn, hen⟩, h1, h2, h3, h4⟩ := h.ex
  exact ⟨dx, aw, as, vd, ve, ⟨dn, en, s _ _ e, SqT.same s hdn, SqT.same s hen⟩, SqT.same s h1, SqT.same s h2, Tn.same s h3, Tn.same s h4⟩
def spProgram (K : PySem.W.Frag) (C : Addr) : Sp := fun vs H Q _ => ∃ (x dx aw as : Addr) (vd ve : V) (p : PP) (m : Nat), vs = [.ref x, .ref aw, .ref as, vd, ve] ∧ H x = some (.ins C dx []) ∧ SqT K H aw (p.words.map V.str) ∧ SqT K H as (p.sources.map V.str) ∧ Tn K H vd (pairsD p.derived) ∧ Tn K H ve (pairsD p.effects) ∧
  p.Ok m ∧ m ≤ 16 ∧ ∀ (dn en : Addr) H', Same H H' → SqT K (upd H' x (.ins C dx (progF aw as vd ve dn en))) dn (p.derived.map fun q => V.str q.1) → SqT K (upd H' x (.ins C dx (progF aw as vd ve dn en))) en (p.effects.map fun q => V.str q.1) → Q .non (upd H' x (.ins C dx (progF aw as vd ve dn en)))
def spBodyOf (K : PySem.W.Frag) (C : Addr) : Sp := fun vs H Q _ => ∃ (pa : Addr) (z : Str) (p : PP) (m : Nat) (q : Str × List Td.Row), vs = [.ref pa, .str z] ∧ ProgAt K H C pa p ∧ p.Ok m ∧ q ∈ p.derived ++ p.effects ∧ q.1 = z ∧
  ∀ (v : V) H', Same H H' → Tn K H' v (.tuple (rowsD q.2)) → Q v H'
def spDerivedNames (K : PySem.W.Frag) (C : Addr) : Sp := fun vs H Q _ => ∃ (pa : Addr) (p : PP) (m : Nat), vs = [.ref pa] ∧ ProgAt K H C pa p ∧ p.Ok m ∧
  ∀ (t : Addr) H', Same H H' → SqT K H' t (p.derived.map fun q => V.str q.1) → Q (.ref t) H'
section
variable {P : Program} {w : World} {K : PySem.W.Frag} {mg : Str → Option Value} {base : Heap}
theorem ok_check_body (T : Tops w K mg) (G_first_wrong_path : FnOk P w K mg base CX0 7 T.a_first_wrong_path T.d_first_wrong_path ["rows", "scope", "base", "depth"] (spFirst K T.c_Scope 4))
    (G_paths_of_rows : FnOk P w K mg base CX0 4 T.a_paths_of_rows T.d_paths_of_rows ["rows", "base"] (spPaths K 4)) :
    FnOk P w K mg base CX0 8 T.a_check_body T.d_check_body ["rows", "scope", "index"] (spBody K T.c_Scope) := by
  refine T.F_check_body.ok sc_check_body (fun vs H Q E h => ?_) (fun cdv A outer s H vs Q E hr h => ?_)
  · obtain ⟨v, sa, S, rs, i, rfl, _⟩ := h
    rfl
  obtain ⟨v, sa, S, rs, i, rfl, hD, hSc, ok, hc, q⟩ := h
  obtain ⟨a, xs, rfl, hS, hl, hx⟩ := rows_at hD
  obtain ⟨dx, aw, as, ar, e, h1, h2, h3⟩ := hSc.ex
  refine ⟨_, (pss_cons (ps_set (i := 3) sc_check_body.nd rfl (Or.inl rfl) (pe_tup (pa_cons (pe_fld (pv 1) rfl) (pa_cons (pv 2) pa_nil))))
    (pss_cons (ps_if (pt_not (pt_val (pe_callB call_isi rfl T.z_isinstance (by decide +kernel) (pa_cons (pv 0) (pa_cons (pe_bltn (v := .ty "tuple") rfl T.z_tuple (by decide +kernel) rfl) pa_nil))))) (pss_one ps_never) pss_nil)
    (pss_cons (ps_set (i := 4) sc_check_body.nd rfl (Or.inl rfl) (pe_call G_first_wrong_path (hr.mono (by omega)) rfl T.m_first_wrong_path T.F_first_wrong_path.kp T.b_first_wrong_path .nil pass0 (pa_cons (pv 0) (pa_cons (pv 1) (pa_cons (pv 3) (pa_cons pe_int pa_nil))))))
    (pss_cons (ps_if (pt_cmpR op_notN (pv 4) pe_non (nomark _)) (pss_one ps_never) pss_nil)
    (pss_one (ps_if (pt_cmpR op_gt (pe_callB call_len rfl T.z_len PySem.boot_len (pa_cons (pe_call G_paths_of_rows (hr.mono (by omega)) rfl T.m_paths_of_rows T.F_paths_of_rows.kp T.b_paths_of_rows .nil pass0 (pa_cons (pv 0) (pa_cons (pv 3) pa_nil))) pa_nil)) (pe_glob (v := .int 16) rfl T.c_MOST_ROWS ⟨_, rfl⟩) (nomark _)) (pss_one ps_never) pss_nil)))))), ?_⟩
  refine ⟨_, rfl, sa, _, dx, _, _, rfl, e, T.l_Scope, T.n_Scope_kind, scF_kind .., _, rfl, by show 2 ≤ sizeLine; decide, fun b hb => ?_⟩
  have s1 : Same H (upd H b (.tup [.str (kdS S.eff), .int i])) := Same.new hb _
  have hB : SqT K (upd H b (.tup [.str (kdS S.eff), .int i])) b [.str (kdS S.eff), .int i] := SqT.of upd_same
  show tSeq _ _ _ _ (upd H b (.tup [.str (kdS S.eff), .int i]))
  generalize upd H b (.tup [.str (kdS S.eff), .int i]) = H1 at s1 hB
  refine ⟨_, rfl, .ref a, .ty "tuple", .type "tuple", .type "tuple", true, rfl, .ty _, ty_tup (SqT.same s1 hS), kit_ty (by decide +kernel), true, rfl, if_false_of rfl ?_⟩
  refine ⟨_, rfl, _, rfl, _, rfl, _, sa, b, _, S, 1, rs, rfl, Dp.same s1 hD, hSc.same s1, hB, by simp, by simp, ok, by omega, by omega, fun H2 s2 => ?_⟩
  refine ⟨_, rfl, rfl, _, rfl, if_false_of rfl ?_⟩
  have s12 := s1.trans s2
  refine ⟨_, rfl, _, rfl, _, b, _, S, 1, rs, rfl, Dp.same s12 hD, SqT.same s2 hB, by simp, by simp, ok, by omega, by omega, by omega, fun p ys H3 s3 hp hy hyl => ?_⟩
  refine ⟨.ref p, _, rfl, .inl ⟨_, SqL.of hy, rfl⟩, _, _, rfl, rfl, _, rfl, if_false_of (decide_eq_false (by rw [hyl]; omega)) ?_⟩
  exact q H3 (s12.trans s3)
theorem ok_check_bodies (T : Tops w K mg) (G_check_body : FnOk P w K mg base CX0 8 T.a_check_body T.d_check_body ["rows", "scope", "index"] (spBody K T.c_Scope))
    (G_Scope_init : FnOk P w K mg base CX0 1 T.a_Scope_init T.d_Scope_init ["self", "kind", "words", "sources", "readable"] (spScope T.c_Scope)) :
    FnOk P w K mg base CX0 9 T.a_check_bodies T.d_check_bodies ["words", "sources", "derived", "effects"] (spBodies K) := by
  refine T.F_check_bodies.ok sc_check_bodies (fun vs H Q E h => ?_) (fun cdv A outer s H vs Q E hr h => ?_)
  · obtain ⟨aw, as, vd, ve, p, m, rfl, _⟩ := h
    rfl
  obtain ⟨aw, as, vd, ve, p, m, rfl, hW, hSo, hDe, hEf, ok, hm, q⟩ := h
  obtain ⟨ad, xs, rfl, hA, hl, hx⟩ := pairs_at hDe
  obtain ⟨ae, ys, rfl, hA2, hl2, hx2⟩ := pairs_at hEf
  refine ⟨_, (pss_cons (ps_set (i := 4) sc_check_bodies.nd rfl (Or.inl rfl) (pv 1))
    (pss_cons (ps_for PassesOwn.never rfl (pi_enumT rfl T.z_enumerate (pa_cons (pv 2) pa_nil)) (pg_tup rfl (pgs_cons (pg_name (i := 5) sc_check_bodies.nd rfl (Or.inl rfl)) (pgs_cons (pg_tup rfl (pgs_cons (pg_name (i := 6) sc_check_bodies.nd rfl (Or.inl rfl)) (pgs_cons (pg_name (i := 7) sc_check_bodies.nd rfl (Or.inl rfl)) pgs_nil))) pgs_nil))) (pss_cons (ps_expr (pe_call G_check_body (hr.mono (by omega)) rfl T.m_check_body T.F_check_body.kp T.b_check_body .nil pass0 (pa_cons (pv 7) (pa_cons (pe_make T.k_Scope G_Scope_init (hr.mono (by omega)) rfl T.m_Scope T.b_Scope_init .nil pass0 (pa_cons pe_str (pa_cons (pv 0) (pa_cons (pv 1) (pa_cons (pv 4) pa_nil))))) (pa_cons (pv 5) pa_nil)))))
    (pss_one (ps_set (i := 4) sc_check_bodies.nd rfl (Or.inl rfl) (pe_op op_catA (pv 4) (pe_tup (pa_cons (pv 6) pa_nil)))))))
    (pss_one (ps_for PassesOwn.never rfl (pi_enumT rfl T.z_enumerate (pa_cons (pv 3) pa_nil)) (pg_tup rfl (pgs_cons (pg_name (i := 5) sc_check_bodies.nd rfl (Or.inl rfl)) (pgs_cons (pg_tup rfl (pgs_cons (pg_name (i := 8) sc_check_bodies.nd rfl (Or.inl rfl)) (pgs_cons (pg_name (i := 7) sc_check_bodies.nd rfl (Or.inl rfl)) pgs_nil))) pgs_nil))) (pss_one (ps_expr (pe_call G_check_body (hr.mono (by omega)) rfl T.m_check_body T.F_check_body.kp T.b_check_body .nil pass0 (pa_cons (pv 7) (pa_cons (pe_make T.k_Scope G_Scope_init (hr.mono (by omega)) rfl T.m_Scope T.b_Scope_init .nil pass0 (pa_cons pe_str (pa_cons (pv 0) (pa_cons (pv 1) (pa_cons (pv 4) pa_nil))))) (pa_cons (pv 5) pa_nil)))))))))), ?_⟩
  refine ⟨_, rfl, ?_⟩
  refine ⟨_, rfl, ad, _, rfl, hA, for_enumT (K := K) (a := ad) (xs := xs) (fun i σ H' => ∃ (ar : Addr) (v5 v6 v7 : Option V), σ = [some (.ref aw), some (.ref as), some (.ref ad), some (.ref ae), some (.ref ar), v5, v6, v7, none] ∧ Same H H' ∧ SqT K H' ar ((p.sources ++ (p.derived.take i).map (·.1)).map V.str))
    ⟨as, none, none, none, rfl, Same.refl _, by simpa using hSo⟩ (fun i σ H' _ ⟨_, _, _, _, _, hs, _⟩ => SqT.same hs hA) ?_ ?_⟩
  · rintro i x σ H1 t hi ⟨ar, v5, v6, v7, rfl, hs, hR⟩ ht
    obtain ⟨qq, b, vr, hq, rfl, hB, hT⟩ := hx i x hi
    have hs1 : Same H (upd H1 t (.tup [.int (i : Nat), .ref b])) := hs.trans (Same.new ht _)
    have hR1 := SqT.same (Same.new ht (.tup [.int (i : Nat), .ref b])) hR
    refine ⟨t, _, rfl, SqT.of upd_same, rfl, _, _, rfl, _, _, rfl, ⟨b, _, rfl, SqT.same hs1 hB, rfl, _, _, rfl, _, _, rfl, rfl, ?_⟩⟩
    generalize upd H1 t (.tup [.int (i : Nat), .ref b]) = H2 at hs1 hR1
    obtain ⟨okd, hcd⟩ := okDer_get ok.der hq
    refine ⟨rfl, _, rfl, _, rfl, _, rfl, _, rfl, fun x dx hx hdx hne => ⟨x, dx, aw, as, ar, "derived", rfl, upd_same, rfl, _, rfl, ?_⟩⟩
    obtain ⟨H3, e3, s3, sc3⟩ := scope_made (C := T.c_Scope) (S := ⟨false, p.words, p.sources, p.sources ++ (p.derived.take i).map (·.1)⟩) hx hdx hne (SqT.same hs1 hW) (SqT.same hs1 hSo) hR1
    rw [show ("derived" : Str) = kdS false from rfl, e3]
    refine ⟨vr, x, _, qq.2, _, rfl, Dp.same (hs1.trans s3) hT.dp, sc3, okd, by omega, fun H4 s4 => ?_⟩
    have s24 := s3.trans s4
    refine ⟨_, rfl, _, rfl, by show 1 ≤ sizeLine; decide, fun t1 ht1 => ?_⟩
    have s25 := s24.trans (Same.new ht1 (.tup [.str qq.1]))
    refine cat_all (SqT.same s25 hR1) (SqT.of upd_same) (Nat.le_of_lt (small1000 ?_)) (fun ar2 H6 s6 hR6 => ?_)
    · have h1 := ok.s4
      have h2 := ok.d6
      simp
      omega
    · refine ⟨ar2, _, _, _, rfl, hs1.trans (s25.trans s6), ?_⟩
      rw [take_more hq]
      have hR7 : SqT K H6 ar2 (((p.sources ++ (p.derived.take i).map (·.1)).map V.str) ++ [V.str qq.1]) := hR6
      simpa using hR7
  · rintro σ H1 ⟨ar, v5, v6, v7, rfl, hs, hR⟩
    rw [hl, List.take_length] at hR
    refine ⟨_, rfl, ae, _, rfl, SqT.same hs hA2, for_enumT (K := K) (a := ae) (xs := ys) (fun i σ H' => ∃ (v5 v6 v7 v8 : Option V), σ = [some (.ref aw), some (.ref as), some (.ref ad), some (.ref ae), some (.ref ar), v5, v6, v7, v8] ∧ Same H1 H')
      ⟨v5, v6, v7, none, rfl, Same.refl _⟩ (fun i σ H' _ ⟨_, _, _, _, _, h⟩ => SqT.same (hs.trans h) hA2) ?_ ?_⟩
    · rintro i x σ H2 t hi ⟨v5, v6, v7, v8, rfl, hs2⟩ ht
      obtain ⟨qq, b, vr, hq, rfl, hB, hT⟩ := hx2 i x hi
      have hs3 : Same H1 (upd H2 t (.tup [.int (i : Nat), .ref b])) := hs2.trans (Same.new ht _)
      refine ⟨t, _, rfl, SqT.of upd_same, rfl, _, _, rfl, _, _, rfl, ⟨b, _, rfl, SqT.same (hs.trans hs3) hB, rfl, _, _, rfl, _, _, rfl, rfl, ?_⟩⟩
      generalize upd H2 t (.tup [.int (i : Nat), .ref b]) = H3 at hs3
      obtain ⟨okd, hcd⟩ := okEff_get ok.eff hq
      refine ⟨rfl, _, rfl, _, rfl, _, rfl, _, rfl, fun x dx hx hdx hne => ⟨x, dx, aw, as, ar, "effects", rfl, upd_same, rfl, _, rfl, ?_⟩⟩
      obtain ⟨H4, e4, s4, sc4⟩ := scope_made (C := T.c_Scope) (S := ⟨true, p.words, p.sources, p.cells⟩) hx hdx hne (SqT.same (hs.trans hs3) hW) (SqT.same (hs.trans hs3) hSo) (SqT.same hs3 hR)
      rw [show ("effects" : Str) = kdS true from rfl, e4]
      refine ⟨vr, x, _, qq.2, _, rfl, Dp.same ((hs.trans hs3).trans s4) hT.dp, sc4, okd, by omega, fun H5 s5 => ?_⟩
      exact ⟨_, _, _, _, rfl, hs3.trans (s4.trans s5)⟩
    · rintro σ H2 ⟨_, _, _, _, rfl, hs2⟩
      exact q H2 (hs.trans hs2)
end
end K77
namespace K77
open PySem PySem.Spec PyProof.Rows L2 Td
theorem names_parts {p : PP} (h : Names p.names) : Names p.sources ∧ Names (p.sources ++ p.derived.map (·.1)) ∧ Names ((p.sources ++ p.derived.map (·.1)) ++ p.effects.map (·.1)) := by
  have e : p.names = (p.sources ++ p.derived.map (·.1)) ++ p.effects.map (·.1) := rfl
  rw [e] at h
  have h2 := Names.sub h (List.sublist_append_left _ _)
  exact ⟨Names.sub h2 (List.sublist_append_left _ _), h2, h⟩
theorem pairs_append {K : PySem.W.Frag} {H : Hp} {xs ys : List V} {ps qs : List (Str × List Td.Row)} (h1 : TnAll K H xs (ps.map Td.pairD)) (h2 : TnAll K H ys (qs.map Td.pairD)) : TnAll K H (xs ++ ys) ((ps ++ qs).map Td.pairD) := by
  rw [List.map_append]; exact TnAll.append h1 h2
/-- only one pair bears a name -/
theorem pair_unique {ps : List (Str × List Td.Row)} (h : (ps.map (·.1)).Nodup) {q r : Str × List Td.Row} (hq : q ∈ ps) (hr : r ∈ ps) (e : q.1 = r.1) : q = r := by
  induction ps with
  | nil => cases hq
  | cons x l ih =>
    rw [List.map_cons, List.nodup_cons] at h
    rcases List.mem_cons.mp hq with rfl | hq'
    · rcases List.mem_cons.mp hr with rfl | hr'
      · rfl
      · exact absurd (e ▸ List.mem_map.mpr ⟨r, hr', rfl⟩) h.1
    · rcases List.mem_cons.mp hr with rfl | hr'
      · exact absurd (e.symm ▸ List.mem_map.mpr ⟨q, hq', rfl⟩) h.1
      · exact ih h.2 hq' hr'
section
variable {P : Program} {w : World} {K : PySem.W.Frag} {mg : Str → Option Value} {base : Heap}
theorem ok_check_parts (T : Tops w K mg) (G_are_names : FnOk P w K mg base CX0 2 T.a_are_names T.d_are_names ["value", "least", "most"] (spAreNames K))
    (G_are_named_pairs : FnOk P w K mg base CX0 2 T.a_are_named_pairs T.d_are_named_pairs ["value", "most", "taken"] (spNamedPairs K))
    (G_names_of : FnOk P w K mg base CX0 1 T.a_names_of T.d_names_of ["pairs"] (spNamesOf K)) :
    FnOk P w K mg base CX0 3 T.a_check_parts T.d_check_parts ["words", "sources", "derived", "effects"] (spBodies K) := by
  refine T.F_check_parts.ok sc_check_parts (fun vs H Q E h => ?_) (fun cdv A outer s H vs Q E hr h => ?_)
  · obtain ⟨aw, as, vd, ve, p, m, rfl, _⟩ := h
    rfl
  obtain ⟨aw, as, vd, ve, p, m, rfl, hW, hSo, hDe, hEf, ok, hm, q⟩ := h
  obtain ⟨n1, n2, n3⟩ := names_parts ok.nn
  have w2 := ok.w2
  have w4 := ok.w4
  have s1 := ok.s1
  have s4 := ok.s4
  have d6 := ok.d6
  have e4 := ok.e4
  refine ⟨_, (pss_cons (ps_if (pt_not (pt_val (pe_call G_are_names (hr.mono (by omega)) rfl T.m_are_names T.F_are_names.kp T.b_are_names .nil pass0 (pa_cons (pv 0) (pa_cons (pe_glob (v := .int 2) rfl T.c_LEAST_WORDS ⟨_, rfl⟩) (pa_cons (pe_glob (v := .int 4) rfl T.c_MOST_WORDS ⟨_, rfl⟩) pa_nil)))))) (pss_one ps_never) pss_nil)
    (pss_cons (ps_if (pt_not (pt_val (pe_call G_are_names (hr.mono (by omega)) rfl T.m_are_names T.F_are_names.kp T.b_are_names .nil pass0 (pa_cons (pv 1) (pa_cons (pe_glob (v := .int 1) rfl T.c_LEAST_SOURCES ⟨_, rfl⟩) (pa_cons (pe_glob (v := .int 4) rfl T.c_MOST_SOURCES ⟨_, rfl⟩) pa_nil)))))) (pss_one ps_never) pss_nil)
    (pss_cons (ps_if (pt_not (pt_val (pe_call G_are_named_pairs (hr.mono (by omega)) rfl T.m_are_named_pairs T.F_are_named_pairs.kp T.b_are_named_pairs .nil pass0 (pa_cons (pv 2) (pa_cons (pe_glob (v := .int 6) rfl T.c_MOST_DERIVED ⟨_, rfl⟩) (pa_cons (pv 1) pa_nil)))))) (pss_one ps_never) pss_nil)
    (pss_one (ps_if (pt_not (pt_val (pe_call G_are_named_pairs (hr.mono (by omega)) rfl T.m_are_named_pairs T.F_are_named_pairs.kp T.b_are_named_pairs .nil pass0 (pa_cons (pv 3) (pa_cons (pe_glob (v := .int 4) rfl T.c_MOST_EFFECTS ⟨_, rfl⟩) (pa_cons (pe_op op_catA (pv 1) (pe_call G_names_of (hr.mono (by omega)) rfl T.m_names_of T.F_names_of.kp T.b_names_of .nil pass0 (pa_cons (pv 2) pa_nil))) pa_nil)))))) (pss_one ps_never) pss_nil))))), ?_⟩
  refine ⟨_, rfl, aw, p.words, _, _, rfl, hW, ok.wn, by omega, by omega, by omega, fun H1 h1 => ⟨_, rfl, if_false_of rfl ?_⟩⟩
  refine ⟨_, rfl, as, p.sources, _, _, rfl, SqT.same h1 hSo, n1, by omega, by omega, by omega, fun H2 h2 => ⟨_, rfl, if_false_of rfl ?_⟩⟩
  have h12 := h1.trans h2
  refine ⟨_, rfl, _, rfl, vd, as, p.derived, p.sources, _, rfl, Tn.same h12 hDe, SqT.same h12 hSo, n2, by omega, by omega, by omega, fun H3 h3 => ⟨_, rfl, if_false_of rfl ?_⟩⟩
  have h13 := h12.trans h3
  refine ⟨_, rfl, _, rfl, _, rfl, vd, p.derived, rfl, Tn.same h13 hDe, by omega, fun b H4 h4 hb => ?_⟩
  have h14 := h13.trans h4
  refine cat_all (SqT.same h14 hSo) hb (Nat.le_of_lt (small1000 (by rw [List.length_map, List.length_map]; omega))) (fun c H5 h5 hc => ?_)
  refine ⟨ve, c, p.effects, p.sources ++ p.derived.map (·.1), _, rfl, Tn.same (h14.trans h5) hEf, ?_, n3, by omega, by omega, by rw [List.length_append, List.length_map]; omega, fun H6 h6 => ⟨_, rfl, if_false_of rfl ?_⟩⟩
  · have hc' : SqT K H5 c (p.sources.map V.str ++ p.derived.map fun q => V.str q.1) := hc
    rw [List.map_append, List.map_map]; exact hc'
  · exact q H6 ((h14.trans h5).trans h6)
/-- an object amid its making -/
theorem made_same {H0 H2 H3 : Hp} {x : Addr} {o o1 : HO} (s : Same H0 H2) (hx : H0 x = some o) (s3 : Same (upd H2 x o1) H3) : Same H0 (upd H3 x o) := fun b u e => by
  by_cases eb : b = x
  · subst eb; rw [hx] at e; rw [upd_same]; exact e
  · rw [upd_ne eb]; exact s3 _ _ (by rw [upd_ne eb]; exact s _ _ e)
theorem ok_program (T : Tops w K mg) (G_check_parts : FnOk P w K mg base CX0 3 T.a_check_parts T.d_check_parts ["words", "sources", "derived", "effects"] (spBodies K))
    (G_check_bodies : FnOk P w K mg base CX0 9 T.a_check_bodies T.d_check_bodies ["words", "sources", "derived", "effects"] (spBodies K))
    (G_names_of : FnOk P w K mg base CX0 1 T.a_names_of T.d_names_of ["pairs"] (spNamesOf K)) :
    FnOk P w K mg base CX0 10 T.a_Program_init T.d_Program_init ["self", "words", "sources", "derived", "effects"] (spProgram K T.c_Program) := by
  refine T.F_Program_init.ok sc_Program_init (fun vs H Q E h => ?_) (fun cdv A outer s H vs Q E hr h => ?_)
  · obtain ⟨x, dx, aw, as, vd, ve, p, m, rfl, _⟩ := h
    rfl
  obtain ⟨x, dx, aw, as, vd, ve, p, m, rfl, hx, hW, hSo, hDe, hEf, ok, hm, q⟩ := h
  refine ⟨_, (pss_cons (ps_expr (pe_call G_check_parts (hr.mono (by omega)) rfl T.m_check_parts T.F_check_parts.kp T.b_check_parts .nil pass0 (pa_cons (pv 1) (pa_cons (pv 2) (pa_cons (pv 3) (pa_cons (pv 4) pa_nil))))))
    (pss_cons (ps_expr (pe_call G_check_bodies (hr.mono (by omega)) rfl T.m_check_bodies T.F_check_bodies.kp T.b_check_bodies .nil pass0 (pa_cons (pv 1) (pa_cons (pv 2) (pa_cons (pv 3) (pa_cons (pv 4) pa_nil))))))
    (pss_cons (ps_fld (pv 0) (pv 1) rfl)
    (pss_cons (ps_fld (pv 0) (pv 2) rfl)
    (pss_cons (ps_fld (pv 0) (pv 3) rfl)
    (pss_cons (ps_fld (pv 0) (pv 4) rfl)
    (pss_cons (ps_fld (pv 0) (pe_call G_names_of (hr.mono (by omega)) rfl T.m_names_of T.F_names_of.kp T.b_names_of .nil pass0 (pa_cons (pv 3) pa_nil)) rfl)
    (pss_one (ps_fld (pv 0) (pe_call G_names_of (hr.mono (by omega)) rfl T.m_names_of T.F_names_of.kp T.b_names_of .nil pass0 (pa_cons (pv 4) pa_nil)) rfl))))))))), ?_⟩
  refine ⟨_, rfl, _, rfl, _, rfl, _, rfl, aw, as, vd, ve, p, m, rfl, hW, hSo, hDe, hEf, ok, hm, fun H1 h1 => ?_⟩
  refine ⟨_, rfl, _, rfl, _, rfl, _, rfl, aw, as, vd, ve, p, m, rfl, SqT.same h1 hW, SqT.same h1 hSo, Tn.same h1 hDe, Tn.same h1 hEf, ok, hm, fun H2 h2 => ?_⟩
  have h12 := h1.trans h2
  refine ⟨_, rfl, _, rfl, x, T.c_Program, dx, [], rfl, h12 _ _ hx, T.l_Program, T.n_Program_words, by show 0 < 1000; decide, ?_⟩
  refine ⟨_, rfl, _, rfl, x, T.c_Program, dx, _, rfl, upd_same, T.l_Program, T.n_Program_sources, by show 1 < 1000; decide, ?_⟩
  rw [upd_upd]
  refine ⟨_, rfl, _, rfl, x, T.c_Program, dx, _, rfl, upd_same, T.l_Program, T.n_Program_derived, Nat.lt_of_le_of_lt (m := 2) (Nat.le_of_eq (by kernel_rfl)) (by decide), ?_⟩
  rw [upd_upd]
  refine ⟨_, rfl, _, rfl, x, T.c_Program, dx, _, rfl, upd_same, T.l_Program, T.n_Program_effects, Nat.lt_of_le_of_lt (m := 3) (Nat.le_of_eq (by kernel_rfl)) (by decide), ?_⟩
  rw [upd_upd]
  have d6 := ok.d6
  have e4 := ok.e4
  have hx2 := h12 _ _ hx
  have tk0 : ∀ o : HO, TK H2 (upd H2 x o) := fun o => TK.upd (by rw [hx2]; trivial)
  refine ⟨_, rfl, vd, p.derived, rfl, Tn.keep (tk0 _) (Tn.same h12 hDe), by omega, fun t1 H3 s3 ht1 => ?_⟩
  have hx3 := s3 _ _ upd_same
  refine ⟨_, rfl, x, T.c_Program, dx, _, rfl, hx3, T.l_Program, T.n_Program__derived_names, Nat.lt_of_le_of_lt (m := 4) (Nat.le_of_eq (by kernel_rfl)) (by decide), ?_⟩
  have tk1 : ∀ o : HO, TK H3 (upd H3 x o) := fun o => TK.upd (by rw [hx3]; trivial)
  refine ⟨_, rfl, ve, p.effects, rfl, Tn.keep (tk1 _) (Tn.same s3 (Tn.keep (tk0 _) (Tn.same h12 hEf))), by omega, fun t2 H4 s4 ht2 => ?_⟩
  have hx4 := s4 _ _ upd_same
  refine ⟨_, rfl, x, T.c_Program, dx, _, rfl, hx4, T.l_Program, T.n_Program__effect_names, Nat.lt_of_le_of_lt (m := 5) (Nat.le_of_eq (by kernel_rfl)) (by decide), ?_⟩
  have tk2 : ∀ o : HO, TK H4 (upd H4 x o) := fun o => TK.upd (by rw [hx4]; trivial)
  have sH := made_same (made_same h12 hx s3) hx (by rw [upd_upd]; exact s4)
  rw [progF_put]
  have q2 := q t1 t2 _ sH
  rw [upd_upd] at q2
  exact q2 (SqT.tk (tk2 _) (SqT.same s4 (SqT.tk (tk1 _) ht1))) (SqT.tk (tk2 _) ht2)
theorem ok_body (T : Tops w K mg) : FnOk P w K mg base CX0 1 T.a_Program_body T.d_Program_body ["self", "name"] (spBodyOf K T.c_Program) := by
  refine T.F_Program_body.ok sc_Program_body (fun vs H Q E h => ?_) (fun cdv A outer s H vs Q E hr h => ?_)
  · obtain ⟨pa, z, p, m, qq, rfl, _⟩ := h
    rfl
  obtain ⟨pa, z, p, m, qq, rfl, hP, ok, hin, rfl, q⟩ := h
  obtain ⟨dx, aw, as, vd, ve, ⟨dn, en, e, hdn, hen⟩, h1, h2, h3, h4⟩ := hP.ex
  obtain ⟨ad, xs, rfl, hA, hTA⟩ := Tn.tup_inv h3
  obtain ⟨ae, ys, rfl, hA2, hTA2⟩ := Tn.tup_inv h4
  have d6 := ok.d6
  have e4 := ok.e4
  have lx := hTA.length
  have ly := hTA2.length
  rw [List.length_map] at lx ly
  refine ⟨_, (pss_cons (ps_for PassesOwn.never rfl (pi_tup (pe_op op_catA (pe_fld (pv 0) rfl) (pe_fld (pv 0) rfl))) (pg_tup rfl (pgs_cons (pg_name (i := 2) sc_Program_body.nd rfl (Or.inl rfl)) (pgs_cons (pg_name (i := 3) sc_Program_body.nd rfl (Or.inl rfl)) pgs_nil))) (pss_one (ps_if (pt_cmpR op_eq (pv 2) (pv 1) (nomark _)) (pss_one (ps_ret (pv 3))) pss_nil)))
    (pss_one ps_never)), ?_⟩
  refine ⟨_, rfl, pa, _, dx, _, _, rfl, e, T.l_Program, T.n_Program_derived, progF_derived .., _, rfl, pa, _, dx, _, _, rfl, e, T.l_Program, T.n_Program_effects, progF_effects .., ?_⟩
  refine cat_all hA hA2 (Nat.le_of_lt (small1000 (by omega))) (fun c H1 s1 hc => ?_)
  have hT : Tn K H1 (.ref c) (pairsD (p.derived ++ p.effects)) := .tup hc (TnAll.keep (TK.of_same s1) (pairs_append hTA hTA2))
  obtain ⟨c', zs, e2, hC, hl, hx⟩ := pairs_at hT
  cases e2
  have nd : ((p.derived ++ p.effects).map (·.1)).Nodup := by
    have := ok.nn.nd
    unfold PP.names at this
    rw [List.append_assoc] at this
    rw [List.map_append]
    exact this.sublist (List.sublist_append_right _ _)
  refine ⟨c, rfl, ⟨_, hC⟩, for_tup (K := K) (a := c) (xs := zs) (fun i σ H' => ∃ (v2 v3 : Option V), σ = [some (.ref pa), some (.str qq.1), v2, v3] ∧ Same H1 H' ∧ ∀ j r, j < i → (p.derived ++ p.effects)[j]? = some r → r.1 ≠ qq.1)
    ⟨none, none, rfl, Same.refl _, fun j r h => absurd h (Nat.not_lt_zero j)⟩ (fun i σ H' _ ⟨_, _, _, hs, _⟩ => SqT.same hs hC) ?_ ?_⟩
  · rintro i x σ H2 hi ⟨v2, v3, rfl, hs, hno⟩
    obtain ⟨r, b, vr, hr1, rfl, hB, hR⟩ := hx i x hi
    refine ⟨b, _, rfl, SqT.same hs hB, rfl, _, _, rfl, _, _, rfl, rfl, ?_⟩
    refine ⟨_, rfl, _, rfl, rfl, _, rfl, ?_⟩
    by_cases en : r.1 = qq.1
    · refine if_true_of (by rw [en]; exact decide_eq_true rfl) ?_
      have hrq : r = qq := pair_unique nd (List.mem_of_getElem? hr1) hin en
      subst hrq
      exact ⟨_, rfl, q vr H2 (s1.trans hs) (Tn.same hs hR)⟩
    · refine if_false_of (decide_eq_false (fun h => en (by injection h))) ⟨_, _, rfl, hs, fun j r' hj hr' => ?_⟩
      by_cases ej : j = i
      · subst ej; rw [hr1] at hr'; cases hr'; exact en
      · exact hno j r' (by omega) hr'
  · rintro σ H2 ⟨v2, v3, rfl, hs, hno⟩
    obtain ⟨j, hj⟩ := List.getElem?_of_mem hin
    exact absurd rfl (hno j qq (by rw [hl]; exact (List.getElem?_eq_some_iff.mp hj).1) hj)
def spEffectNames (K : PySem.W.Frag) (C : Addr) : Sp := fun vs H Q _ => ∃ (pa : Addr) (p : PP) (m : Nat), vs = [.ref pa] ∧ ProgAt K H C pa p ∧ p.Ok m ∧
  ∀ t H', Same H H' → SqT K H' t (p.effects.map fun r => V.str r.1) → Q (.ref t) H'
end
end K77
namespace K77
open PySem PySem.Spec PyProof.Rows L2 Td
theorem stGo {H H' : Hp} {st sc : Addr} (h : StOk H st sc) (s : Same H H') : StOk H' st sc := by
  obtain ⟨cs, i, d, c, z, h1, h2, r⟩ := h
  exact ⟨cs, i, d, c, z, s _ _ h1, s _ _ h2, r⟩
theorem free_of' {H0 H : Hp} {a : Addr} (s : Same H0 H) (h : H a = none) : H0 a = none := by
  cases e : H0 a with
  | none => rfl
  | some o => rw [s _ _ e] at h; cases h
def ab26 : Str := "abcdefghijklmnopqrstuvwxyz"
def letA (k : Nat) : Str := ⟨#[97 + k]⟩
theorem ab_at : ∀ k, k < 26 → ab26.cps.toList[k]? = some (97 + k) := by decide +kernel
theorem letA_nm : ∀ k, k < 26 → isNm (letA k) = true := by decide +kernel
theorem sl_all {K : PySem.W.Frag} {H : Hp} {a : Addr} {xs : List V} {lo hi : Option Int} {Q : VK} (hA : SqT K H a xs) (k : ∀ (p : Addr) H', Same H H' → SqT K H' p (cutV xs lo hi) → Q (.ref p) H') : rSlA K (.ref a) lo hi H Q := by
  refine ⟨a, xs, rfl, hA, fun h => k a H (Same.refl _) ?_, fun _ p hp => k p _ (Same.new hp _) (SqT.of upd_same)⟩
  unfold cutV
  rw [h.1, h.2, List.drop_zero, Nat.sub_zero, List.take_length]
  exact hA
theorem nodup_len {α : Type} : ∀ (l m : List α), l.Nodup → (∀ x ∈ l, x ∈ m) → l.length ≤ m.length
  | [], m, _, _ => Nat.zero_le _
  | x :: l, m, nd, h => by
    obtain ⟨a, b, rfl⟩ := List.append_of_mem (h x List.mem_cons_self)
    rw [List.nodup_cons] at nd
    have := nodup_len l (a ++ b) nd.2 (fun y hy => by
      have hy2 := h y (List.mem_cons_of_mem _ hy)
      rcases List.mem_append.mp hy2 with g | g
      · exact List.mem_append_left _ g
      · rcases List.mem_cons.mp g with g | g
        · subst g; exact absurd hy nd.1
        · exact List.mem_append_right _ g)
    rw [List.length_append] at this ⊢
    rw [List.length_cons, List.length_cons]
    omega
theorem cut_fromN (xs : List V) (k : Nat) : cutV xs (some (k : Int)) none = xs.drop k := by
  unfold cutV
  rw [HT.sIx_none, HT.sIx_nat]
  by_cases h : k ≤ xs.length
  · rw [Nat.min_eq_left h, List.take_of_length_le (by rw [List.length_drop]; exact Nat.le_refl _)]
  · rw [Nat.min_eq_right (by omega), List.drop_eq_nil_of_le (Nat.le_refl _), List.drop_eq_nil_of_le (by omega), List.take_nil]
def freshG (ns : List Str) (i : Nat) : List Str := ((List.range i).filter fun k => decide (letA k ∉ ns)).map letA
theorem freshG_more (ns : List Str) (i : Nat) : freshG ns (i + 1) = if letA i ∈ ns then freshG ns i else freshG ns i ++ [letA i] := by
  unfold freshG
  rw [List.range_succ, List.filter_append, List.map_append]
  by_cases hz : letA i ∈ ns <;> simp [hz]
theorem freshG_len (ns : List Str) (i : Nat) : (freshG ns i).length ≤ i := by
  unfold freshG
  have := List.length_filter_le (fun k => decide (letA k ∉ ns)) (List.range i)
  rw [List.length_range] at this
  rw [List.length_map]; exact this
theorem pair_get {K : PySem.W.Frag} {G : Hp} {xs : List V} {ps : List (Str × List Td.Row)} (h : TnAll K G xs (ps.map Td.pairD)) {i : Nat} {x : V} (e : xs[i]? = some x) :
    ∃ r b vr, ps[i]? = some r ∧ x = .ref b ∧ SqT K G b [.str r.1, vr] ∧ Tn K G vr (.tuple (rowsD r.2)) := by
  obtain ⟨d, hd, hxd⟩ := TnAll.get h e
  rw [List.getElem?_map] at hd
  obtain ⟨r, hr2, rfl⟩ := Option.map_eq_some_iff.mp hd
  obtain ⟨b, es, rfl, hB, hEs⟩ := Tn.tup_inv hxd
  obtain ⟨vr, rfl, hvr⟩ : ∃ vr, es = [.str r.1, vr] ∧ Tn K G vr (.tuple (rowsD r.2)) := by
    cases hEs with
    | cons a1 a2 =>
      cases a1
      cases a2 with
      | cons a3 a4 => cases a4; exact ⟨_, rfl, a3⟩
  exact ⟨r, b, vr, hr2, rfl, hB, hvr⟩
theorem zip_fstB {α : Type} {xs : List V} {L : List α} (h : xs.length = L.length) : xs = (xs.zip L).map Prod.fst := (List.map_fst_zip (by omega)).symm
theorem zip_atB {α : Type} {xs : List V} {L : List α} {i : Nat} {x : V × α} (h : (xs.zip L)[i]? = some x) : xs[i]? = some x.1 ∧ L[i]? = some x.2 := List.getElem?_zip_eq_some.mp h
/-! ### changes of a program -/
def kdW (e : Bool) : Str := if e then "effects" else "derived"
/-- the path of a row: its kind, its body, its steps -/
structure Way where
  e : Bool
  i : Nat
  st : List Int
deriving DecidableEq
def Way.ds (a : Way) : List PyData := .str (kdW a.e) :: .int (a.i : Nat) :: a.st.map PyData.int
def Way.vs (a : Way) : List V := .str (kdW a.e) :: .int (a.i : Nat) :: a.st.map V.int
def Way.data (a : Way) : PyData := .tuple a.ds
def bodiesOf (p : PP) (e : Bool) : List (Str × List Td.Row) := if e then p.effects else p.derived
/-- a change: a peek or a read put ahead, and the path of the read -/
def chgD (c : Bool × Way) : PyData := .tuple [.str (if c.1 then "peek" else "early"), c.2.data]
/-- the changes of one body -/
def ownC (L : List (Bool × Way)) (e : Bool) (i : Nat) : List (Bool × List Int) := (L.filter fun c => decide (c.2.e = e) && decide (c.2.i = i)).map fun c => (c.1, c.2.st)
def freeOf (rs : List Td.Row) : Str := (freshG (slotsRs rs) 26).headD ""
def cellOf (o : Option Td.Row) : Str := match o with
  | some (.rd _ c _) => c
  | _ => ""
def slotOf (o : Option Td.Row) : Str := match o with
  | some (.rd _ _ s) => s
  | _ => ""
def earlyCs (rs : List Td.Row) (own : List (Bool × List Int)) : List Str := (own.filter fun c => !c.1).map fun c => cellOf (rowAt rs c.2)
def behindF (rs : List Td.Row) (b : List Td.Row) (c : Bool × List Int) : List Td.Row := if c.1 then setAt b c.2 (.rd true (cellOf (rowAt rs c.2)) (slotOf (rowAt rs c.2))) else b
def behindRs (rs : List Td.Row) (own : List (Bool × List Int)) : List Td.Row := own.foldl (behindF rs) rs
def chRows (rs : List Td.Row) (own : List (Bool × List Int)) : List Td.Row := earlyRs (freeOf rs) (earlyCs rs own) ++ behindRs rs own
def chBodies (L : List (Bool × Way)) (e : Bool) (ps : List (Str × List Td.Row)) : List (Str × List Td.Row) := ps.mapIdx fun i q => (q.1, chRows q.2 (ownC L e i))
def Chd (p : PP) (L : List (Bool × Way)) : PP := ⟨p.words, p.sources, chBodies L false p.derived, chBodies L true p.effects⟩
/-- the changes stand at reads -/
def OwnOk (rs : List Td.Row) (own : List (Bool × List Int)) : Prop := ∀ c ∈ own, ∃ x s, rowAt rs c.2 = some (.rd false x s)
structure ChOk (p : PP) (L : List (Bool × Way)) : Prop where
  at_ : ∀ c ∈ L, ∃ q x s, (bodiesOf p c.2.e)[c.2.i]? = some q ∧ rowAt q.2 c.2.st = some (.rd false x s)
  eff : ∀ c ∈ L, c.1 = true → c.2.e = true
theorem ChOk.own {p : PP} {L : List (Bool × Way)} (h : ChOk p L) {e : Bool} {i : Nat} {q : Str × List Td.Row} (hq : (bodiesOf p e)[i]? = some q) : OwnOk q.2 (ownC L e i) := fun c hc => by
  unfold ownC at hc
  obtain ⟨d, hd, rfl⟩ := List.mem_map.mp hc
  obtain ⟨h1, h2⟩ := List.mem_filter.mp hd
  rw [Bool.and_eq_true, decide_eq_true_eq, decide_eq_true_eq] at h2
  obtain ⟨r, x, s, g1, g2⟩ := h.at_ d h1
  rw [h2.1, h2.2, hq] at g1
  cases g1
  exact ⟨x, s, g2⟩
theorem free_some {ns : List Str} (h : ns.length ≤ 24) : ∃ k, k < 26 ∧ letA k ∉ ns ∧ (freshG ns 26).headD "" = letA k ∧ ∃ r, freshG ns 26 = letA k :: r := by
  cases e : (List.range 26).filter fun k => decide (letA k ∉ ns) with
  | nil =>
    exfalso
    have h2 := nodup_len ((List.range 25).map letA) ns (by decide +kernel) fun x hx => by
      obtain ⟨k, hk, rfl⟩ := List.mem_map.mp hx
      have k5 := List.mem_range.mp hk
      have g := List.filter_eq_nil_iff.mp e k (List.mem_range.mpr (by omega))
      simpa using g
    have : ((List.range 25).map letA).length = 25 := by rw [List.length_map, List.length_range]
    omega
  | cons k r =>
    have hk : k ∈ (List.range 26).filter fun k => decide (letA k ∉ ns) := by rw [e]; exact List.mem_cons_self
    obtain ⟨h1, h2⟩ := List.mem_filter.mp hk
    have ef : freshG ns 26 = letA k :: r.map letA := by unfold freshG; rw [e]; rfl
    exact ⟨k, List.mem_range.mp h1, of_decide_eq_true h2, by rw [ef]; rfl, _, ef⟩
theorem free_at {rs : List Td.Row} (h : cnts rs ≤ 24) : freeOf rs ∉ slotsRs rs ∧ isNm (freeOf rs) = true := by
  obtain ⟨k, h1, h2, h3, _⟩ := free_some (ns := slotsRs rs) (by rw [slotsRs_len]; exact h)
  unfold freeOf
  rw [h3]
  exact ⟨h2, letA_nm k h1⟩
theorem behind_pk {rs : List Td.Row} : ∀ (own : List (Bool × List Int)) (b : List Td.Row), OwnOk rs own → pkRs rs b → pkRs rs (own.foldl (behindF rs) b)
  | [], b, _, h => h
  | c :: own, b, ho, h => by
    rw [List.foldl_cons]
    refine behind_pk own _ (fun d hd => ho d (List.mem_cons_of_mem _ hd)) ?_
    unfold behindF
    split
    · obtain ⟨x, s, e⟩ := ho c List.mem_cons_self
      rw [e]
      exact pkRs_peek c.2 h e
    · exact h
mutual
theorem pk_cnt : ∀ {r t : Td.Row}, pkR r t → Td.cnt t = Td.cnt r
  | .rd .., t, h => by unfold pkR at h; obtain ⟨_, rfl⟩ := h; simp [Td.cnt]
  | .ite s u y n, t, h => by unfold pkR at h; obtain ⟨y', n', rfl, h1, h2⟩ := h; simp only [Td.cnt, pk_cnts h1, pk_cnts h2]
  | .put .., t, h => by unfold pkR at h; rw [h]
  | .give .., t, h => by unfold pkR at h; rw [h]
  | .say .., t, h => by unfold pkR at h; rw [h]
  | .wr .., t, h => by unfold pkR at h; rw [h]
theorem pk_cnts : ∀ {rs ts : List Td.Row}, pkRs rs ts → cnts ts = cnts rs
  | [], ts, h => by unfold pkRs at h; rw [h]
  | r :: rs, ts, h => by unfold pkRs at h; obtain ⟨r', rs', rfl, h1, h2⟩ := h; simp only [cnts, pk_cnt h1, pk_cnts h2]
end
/-- right rows stay right, in an effect -/
def noPk : Td.Row → Bool
  | .rd pk _ _ => !pk
  | _ => true
mutual
theorem pk_okE {S : Sc} (hS : S.eff = true) : ∀ {r t : Td.Row} {dep : Nat}, pkR r t → okR S dep r → okR S dep t
  | .rd pk c s, t, dep, h, ok => by
    unfold pkR at h; obtain ⟨pk', rfl⟩ := h
    unfold okR at ok ⊢
    exact ⟨fun _ => hS, ok.2⟩
  | .ite s u y n, t, dep, h, ok => by
    unfold pkR at h; obtain ⟨y', n', rfl, h1, h2⟩ := h
    unfold okR at ok ⊢
    exact ⟨ok.1, ok.2.1, ok.2.2.1, pk_okEs hS h1 ok.2.2.2.1, pk_okEs hS h2 ok.2.2.2.2⟩
  | .put .., t, dep, h, ok => by unfold pkR at h; rw [h]; exact ok
  | .give .., t, dep, h, ok => by unfold pkR at h; rw [h]; exact ok
  | .say .., t, dep, h, ok => by unfold pkR at h; rw [h]; exact ok
  | .wr .., t, dep, h, ok => by unfold pkR at h; rw [h]; exact ok
theorem pk_okEs {S : Sc} (hS : S.eff = true) : ∀ {rs ts : List Td.Row} {dep : Nat}, pkRs rs ts → okRs S dep rs → okRs S dep ts
  | [], ts, dep, h, ok => by unfold pkRs at h; rw [h]; exact ok
  | r :: rs, ts, dep, h, ok => by
    unfold pkRs at h; obtain ⟨r', rs', rfl, h1, h2⟩ := h
    unfold okRs at ok ⊢
    exact ⟨pk_okE hS h1 ok.1, pk_okEs hS h2 ok.2⟩
end
mutual
theorem rowAt_ok {S : Sc} : ∀ (st : List Int) {rs : List Td.Row} {r : Td.Row} {dep : Nat}, okRs S dep rs → rowAt rs st = some r → ∃ dep', okR S dep' r
  | [], rs, r, dep, _, e => by unfold rowAt at e; cases e
  | [i], rs, r, dep, ok, e => by obtain ⟨k, _, e⟩ := rowAt_one e; exact ⟨dep, okRs_get ok e⟩
  | i :: j :: st, rs, r, dep, ok, e => by
    obtain ⟨k, s, u, y, n, _, e1, e2⟩ := rowAt_two e
    have o := okRs_get ok e1
    unfold okR at o
    rcases e2 with ⟨_, e2⟩ | ⟨_, e2⟩
    · exact rowAt_ok st o.2.2.2.1 e2
    · exact rowAt_ok st o.2.2.2.2 e2
end
theorem early_ok {S : Sc} {F : Str} (hF : isNm F = true) : ∀ {cs : List Str} {dep : Nat}, (∀ c ∈ cs, c ∈ S.readable) → okRs S dep (earlyRs F cs)
  | [], dep, _ => by show okRs S dep []; unfold okRs; trivial
  | c :: cs, dep, h => by
    show okRs S dep (.rd false c F :: earlyRs F cs)
    unfold okRs
    refine ⟨?_, early_ok hF fun x hx => h x (List.mem_cons_of_mem _ hx)⟩
    unfold okR
    exact ⟨(fun z => nomatch z), h c List.mem_cons_self, hF⟩
theorem early_cnt (F : Str) : ∀ cs : List Str, cnts (earlyRs F cs) = cs.length
  | [] => by show cnts [] = 0; unfold cnts; rfl
  | c :: cs => by
    show cnts (.rd false c F :: earlyRs F cs) = _
    simp only [cnts, Td.cnt, early_cnt F cs, List.length_cons]
    omega
theorem own_behind {rs : List Td.Row} : ∀ {own : List (Bool × List Int)} {b : List Td.Row}, (∀ c ∈ own, c.1 = false) → own.foldl (behindF rs) b = b
  | [], b, _ => rfl
  | c :: own, b, h => by
    rw [List.foldl_cons]
    have : behindF rs b c = b := by unfold behindF; rw [h c List.mem_cons_self, if_neg Bool.false_ne_true]
    rw [this]
    exact own_behind fun x hx => h x (List.mem_cons_of_mem _ hx)
/-- the changed rows are right -/
theorem chRows_ok {S : Sc} {rs : List Td.Row} {own : List (Bool × List Int)} (ho : OwnOk rs own) (ok : okRs S 1 rs) (hc : cnts rs ≤ 24) (he : S.eff = true ∨ ∀ c ∈ own, c.1 = false) : okRs S 1 (chRows rs own) ∧ cnts (chRows rs own) ≤ cnts rs + own.length := by
  obtain ⟨f1, f2⟩ := free_at hc
  have hp := behind_pk own rs ho (pkRs_refl rs)
  unfold chRows
  refine ⟨okRs_append (early_ok f2 fun c hc => ?_) ?_, ?_⟩
  · unfold earlyCs at hc
    obtain ⟨d, hd, rfl⟩ := List.mem_map.mp hc
    obtain ⟨x, s, e⟩ := ho d (List.mem_filter.mp hd).1
    obtain ⟨dep, o⟩ := rowAt_ok d.2 ok e
    rw [e]
    unfold okR at o
    exact o.2.1
  · rcases he with he | he
    · exact pk_okEs he hp ok
    · unfold behindRs
      rw [own_behind he]
      exact ok
  · rw [cnts_append, early_cnt]
    have h1 : (earlyCs rs own).length ≤ own.length := by unfold earlyCs; rw [List.length_map]; exact List.length_filter_le ..
    have h2 : cnts (behindRs rs own) = cnts rs := pk_cnts hp
    omega
theorem ownC_len (L : List (Bool × Way)) (e : Bool) (i : Nat) : (ownC L e i).length ≤ L.length := by unfold ownC; rw [List.length_map]; exact List.length_filter_le ..
theorem okDer_of {words sources : List Str} {most : Nat} : ∀ {ps : List (Str × List Td.Row)} {rd : List Str}, (∀ (i : Nat) (q : Str × List Td.Row), ps[i]? = some q → okRs ⟨false, words, sources, rd ++ (ps.take i).map (·.1)⟩ 1 q.2 ∧ Lim false most q.2) → okDer words sources most rd ps
  | [], rd, _ => by unfold okDer; trivial
  | q :: ps, rd, h => by
    unfold okDer
    have h0 := h 0 q rfl
    refine ⟨by simpa using h0.1, h0.2, okDer_of fun i r hr => ?_⟩
    have := h (i + 1) r (by simpa using hr)
    rw [List.take_succ_cons, List.map_cons] at this
    rw [List.append_assoc]
    exact this
theorem okEff_of {words sources rd : List Str} {most : Nat} : ∀ {ps : List (Str × List Td.Row)}, (∀ (i : Nat) (q : Str × List Td.Row), ps[i]? = some q → okRs ⟨true, words, sources, rd⟩ 1 q.2 ∧ Lim true most q.2) → okEff words sources rd most ps
  | [], _ => by unfold okEff; trivial
  | q :: ps, h => by
    unfold okEff
    exact ⟨(h 0 q rfl).1, (h 0 q rfl).2, okEff_of fun i r hr => h (i + 1) r (by simpa using hr)⟩
theorem lim_of {e : Bool} {rs : List Td.Row} (h : cnts rs ≤ 15) : Lim e 16 rs := ⟨by omega, rs, [], by simp, by omega, .inl rfl⟩
theorem chB_get {L : List (Bool × Way)} {e : Bool} {ps : List (Str × List Td.Row)} {i : Nat} {q : Str × List Td.Row} (h : (chBodies L e ps)[i]? = some q) : ∃ r, ps[i]? = some r ∧ q = (r.1, chRows r.2 (ownC L e i)) := by
  unfold chBodies at h
  rw [List.getElem?_mapIdx] at h
  obtain ⟨r, h1, h2⟩ := Option.map_eq_some_iff.mp h
  exact ⟨r, h1, h2.symm⟩
theorem chB_names (L : List (Bool × Way)) (e : Bool) (ps : List (Str × List Td.Row)) : (chBodies L e ps).map (·.1) = ps.map (·.1) := by
  refine List.ext_getElem? fun i => ?_
  unfold chBodies
  rw [List.getElem?_map, List.getElem?_map, List.getElem?_mapIdx, Option.map_map]
  rfl
section
variable {p : PP} {m : Nat} {L : List (Bool × Way)}
theorem chd_ok (ok : p.Ok m) (h : ChOk p L) (hm : m + L.length ≤ 15) : (Chd p L).Ok 16 := by
  have nd : (Chd p L).names = p.names := by unfold PP.names Chd; rw [chB_names, chB_names]
  refine ⟨ok.w2, ok.w4, ok.s1, ok.s4, ?_, ?_, ok.wn, by rw [nd]; exact ok.nn, okDer_of fun i q hq => ?_, okEff_of fun i q hq => ?_⟩
  · have := ok.d6; unfold Chd chBodies; rw [List.length_mapIdx]; exact this
  · have := ok.e4; unfold Chd chBodies; rw [List.length_mapIdx]; exact this
  · obtain ⟨r, hr, rfl⟩ := chB_get hq
    obtain ⟨o1, o2⟩ := okDer_get ok.der hr
    have own := h.own (e := false) (i := i) (q := r) hr
    have ol := ownC_len L false i
    have c := chRows_ok own o1 (by omega) (.inr fun c hc => by
      unfold ownC at hc
      obtain ⟨d, hd, rfl⟩ := List.mem_map.mp hc
      obtain ⟨h1, h2⟩ := List.mem_filter.mp hd
      rw [Bool.and_eq_true, decide_eq_true_eq] at h2
      cases e : d.1 with
      | false => rfl
      | true =>
        have := h.eff d h1 e
        rw [h2.1] at this
        cases this)
    refine ⟨?_, lim_of (by have := c.2; show cnts (chRows r.2 _) ≤ 15; omega)⟩
    have e : ((Chd p L).derived.take i).map (·.1) = (p.derived.take i).map (·.1) := by
      show ((chBodies L false p.derived).take i).map (·.1) = _
      rw [List.map_take, List.map_take, chB_names]
    rw [e]
    exact c.1
  · obtain ⟨r, hr, rfl⟩ := chB_get hq
    obtain ⟨o1, o2⟩ := okEff_get ok.eff hr
    have own := h.own (e := true) (i := i) (q := r) hr
    have ol := ownC_len L true i
    have c := chRows_ok own o1 (by omega) (.inl rfl)
    refine ⟨?_, lim_of (by have := c.2; show cnts (chRows r.2 _) ≤ 15; omega)⟩
    have e : (Chd p L).cells = p.cells := by unfold PP.cells Chd; rw [chB_names]
    rw [e]
    exact c.1
theorem bodies_at {q : Str × List Td.Row} (hin : q ∈ p.derived ++ p.effects) : ∃ (e : Bool) (i : Nat), (bodiesOf p e)[i]? = some q := by
  rcases List.mem_append.mp hin with g | g
  · obtain ⟨i, hi⟩ := List.getElem?_of_mem g; exact ⟨false, i, hi⟩
  · obtain ⟨i, hi⟩ := List.getElem?_of_mem g; exact ⟨true, i, hi⟩
theorem bodies_cnt (ok : p.Ok m) {e : Bool} {i : Nat} {q : Str × List Td.Row} (hq : (bodiesOf p e)[i]? = some q) : cnts q.2 ≤ m := by
  cases e with
  | false => exact (okDer_get ok.der hq).2
  | true => exact (okEff_get ok.eff hq).2
/-- a body and the same body changed -/
def chQ (L : List (Bool × Way)) (e : Bool) (i : Nat) (q : Str × List Td.Row) : Str × List Td.Row := (q.1, chRows q.2 (ownC L e i))
theorem chQ_mem {e : Bool} {i : Nat} {q : Str × List Td.Row} (hq : (bodiesOf p e)[i]? = some q) : (bodiesOf (Chd p L) e)[i]? = some (chQ L e i q) := by
  cases e with
  | false => show (chBodies L false p.derived)[i]? = _; unfold chBodies; rw [List.getElem?_mapIdx, show p.derived[i]? = some q from hq]; rfl
  | true => show (chBodies L true p.effects)[i]? = _; unfold chBodies; rw [List.getElem?_mapIdx, show p.effects[i]? = some q from hq]; rfl
theorem bodies_in {e : Bool} {i : Nat} {q : Str × List Td.Row} (hq : (bodiesOf p e)[i]? = some q) : q ∈ p.derived ++ p.effects := by
  cases e with
  | false => exact List.mem_append_left _ (List.mem_of_getElem? hq)
  | true => exact List.mem_append_right _ (List.mem_of_getElem? hq)
end
end K77
namespace K77
open PySem PySem.Spec PyProof.Rows L2 Td
/-- the row at a path -/
def Way.row (a : Way) (p : PP) : Option Td.Row := ((bodiesOf p a.e)[a.i]?).bind fun q => rowAt q.2 a.st
theorem ints_tn {K : PySem.W.Frag} {H : Hp} : ∀ st : List Int, TnAll K H (st.map V.int) (st.map PyData.int)
  | [] => .nil
  | i :: st => .cons (.int i) (ints_tn st)
theorem Way.tn {K : PySem.W.Frag} {H : Hp} {b : Addr} {a : Way} (h : SqT K H b a.vs) : Tn K H (.ref b) a.data := .tup h (.cons (.str _) (.cons (.int _) (ints_tn _)))
theorem ints_inv {K : PySem.W.Frag} {H : Hp} : ∀ {st : List Int} {xs : List V}, TnAll K H xs (st.map PyData.int) → xs = st.map V.int
  | [], xs, h => by cases h; rfl
  | i :: st, xs, h => by
    cases h with
    | cons a b => cases a; rw [ints_inv b]; rfl
theorem Way.inv {K : PySem.W.Frag} {H : Hp} {v : V} {a : Way} (h : Tn K H v a.data) : ∃ b, v = .ref b ∧ SqT K H b a.vs := by
  obtain ⟨b, xs, rfl, hB, hX⟩ := Tn.tup_inv h
  cases hX with
  | cons a1 a2 =>
    cases a1
    cases a2 with
    | cons a3 a4 =>
      cases a3
      have := ints_inv a4
      subst this
      exact ⟨b, rfl, hB⟩
theorem rowAt_ne {rs : List Td.Row} {st : List Int} {r : Td.Row} (h : rowAt rs st = some r) : st ≠ [] := by
  rintro rfl
  unfold rowAt at h
  cases h
theorem ite_tn {K : PySem.W.Frag} {H : Hp} {v : V} {s c : Str} {y n : List Td.Row} (h : Tn K H v (rowD (.ite s c y n))) : ∃ a vy vn, v = .ref a ∧ SqT K H a [.str "if", .str s, .str c, vy, vn] ∧ Tn K H vy (.tuple (rowsD y)) ∧ Tn K H vn (.tuple (rowsD n)) := by
  unfold rowD at h
  obtain ⟨a, xs, rfl, hS, hT⟩ := Tn.tup_inv h
  cases hT with | cons h1 r => cases h1; cases r with | cons h2 r => cases h2; cases r with | cons h3 r => cases h3; cases r with | cons h4 r => cases r with | cons h5 r => cases r; exact ⟨a, _, _, rfl, hS, h4, h5⟩
theorem rd_tn {K : PySem.W.Frag} {H : Hp} {v : V} {pk : Bool} {c s : Str} (h : Tn K H v (rowD (.rd pk c s))) : ∃ a, v = .ref a ∧ SqT K H a [.str (if pk then "peek" else "read"), .str c, .str s] := by
  unfold rowD at h
  obtain ⟨a, xs, rfl, hS, hT⟩ := Tn.tup_inv h
  cases hT with | cons h1 r => cases h1; cases r with | cons h2 r => cases h2; cases r with | cons h3 r => cases h3; cases r; exact ⟨a, rfl, hS⟩
def spBehindR (K : PySem.W.Frag) (n : Nat) : Sp := fun vs H Q _ => ∃ (v : V) (b : Addr) (rs : List Td.Row) (st : List Int) (S : Sc) (dep : Nat), vs = [v, .ref b] ∧ Tn K H v (.tuple (rowsD rs)) ∧ SqT K H b (st.map V.int) ∧ okRs S dep rs ∧ rs.length ≤ 100 ∧ cnts rs ≤ 100 ∧ dep ≤ 4 ∧ 5 ≤ dep + n ∧
  (∀ H', Same H H' → rowAt rs st = none → Q .non H') ∧ ∀ (x : V) (r : Td.Row) H', Same H H' → rowAt rs st = some r → Tn K H' x (rowD r) → Q x H'
theorem len_cnts : ∀ rs : List Td.Row, rs.length ≤ cnts rs
  | [] => Nat.zero_le _
  | r :: rs => by
    have h1 := len_cnts rs
    have h2 := cnt_pos r
    rw [List.length_cons]
    simp only [cnts]
    omega
theorem ty_lst {K : PySem.W.Frag} {H : Hp} {a : Addr} {xs : List V} (h : SqL K H a xs) : TyX K H (.ref a) (.type "list") := by
  rcases h with (h | ⟨o, h⟩) | ⟨o, its, n, h, c, _⟩
  · exact .base (.lst h)
  · exact .base (.frz h)
  · exact .kList h c
/-- the type of a datum -/
def tyD : PyData → String
  | .none => "NoneType"
  | .bool _ => "bool"
  | .int _ => "int"
  | .str _ => "str"
  | .list _ => "list"
  | .tuple _ => "tuple"
  | .dict _ => "dict"
theorem ty_data {K : PySem.W.Frag} {H : Hp} {v : V} {d : PyData} (h : Dp K H v d) : TyX K H v (.type (tyD d)) := by
  cases h with
  | non => exact .base .non
  | bl b => exact .base (.bl b)
  | int i => exact .base (.int i)
  | str z => exact .base (.str z)
  | lst hL _ => exact ty_lst hL
  | tup hT _ => exact ty_tup hT
def isTup : PyData → Bool
  | .tuple _ => true
  | _ => false
theorem isTup_ex {d : PyData} (h : isTup d = true) : ∃ ds, d = .tuple ds := by
  cases d with
  | tuple ds => exact ⟨ds, rfl⟩
  | _ => cases h
theorem kit_tuple {K : PySem.W.Frag} (d : PyData) : PySem.W.kitOne K (.type (tyD d)) (.type "tuple") = some (isTup d) := by
  cases d with
  | none => show PySem.W.kitOne K (.type "NoneType") (.type "tuple") = some false; exact kit_ty (by decide +kernel)
  | bool b => show PySem.W.kitOne K (.type "bool") (.type "tuple") = some false; exact kit_ty (by decide +kernel)
  | int i => show PySem.W.kitOne K (.type "int") (.type "tuple") = some false; exact kit_ty (by decide +kernel)
  | str z => show PySem.W.kitOne K (.type "str") (.type "tuple") = some false; exact kit_ty (by decide +kernel)
  | list ds => show PySem.W.kitOne K (.type "list") (.type "tuple") = some false; exact kit_ty (by decide +kernel)
  | tuple ds => show PySem.W.kitOne K (.type "tuple") (.type "tuple") = some true; exact kit_ty (by decide +kernel)
  | dict kvs => show PySem.W.kitOne K (.type "dict") (.type "tuple") = some false; exact kit_ty (by decide +kernel)
/-! ### any data as the path of a row -/
theorem dp_len {K : PySem.W.Frag} {H : Hp} : ∀ {ds : List PyData} {xs : List V}, DpAll K H xs ds → xs.length = ds.length
  | [], _, h => by cases h; rfl
  | d :: ds, _, h => by cases h with | cons a b => rw [List.length_cons, List.length_cons, dp_len b]
def ibD : Sum Int Bool → PyData
  | .inl i => .int i
  | .inr b => .bool b
def ibV : Sum Int Bool → V
  | .inl i => .int i
  | .inr b => .bl b
def isL : Sum Int Bool → Bool
  | .inl _ => true
  | .inr _ => false
def lefts : List (Sum Int Bool) → List Int
  | [] => []
  | .inl i :: r => i :: lefts r
  | .inr _ :: r => lefts r
def pathOf (e : Bool) (i : Int) (L : List (Sum Int Bool)) : Option (Bool × Int × List Int) := if L.all isL then some (e, i, lefts L) else none
inductive PF : PyData → Option (Bool × Int × List Int) → Prop
  | non {d : PyData} (h : isTup d = false) : PF d none
  | short {ds : List PyData} (h : ds.length < 3) : PF (.tuple ds) none
  | ib (e : Bool) (i : Int) {L : List (Sum Int Bool)} (h : L ≠ []) (l : L.length ≤ 60) : PF (.tuple (.str (kdW e) :: .int i :: L.map ibD)) (pathOf e i L)
def rowP (p : PP) (o : Option (Bool × Int × List Int)) : Option Td.Row := o.bind fun c => (getI (bodiesOf p c.1) c.2.1).bind fun q => rowAt q.2 c.2.2
theorem ibs_inv {K : PySem.W.Frag} {H : Hp} : ∀ {L : List (Sum Int Bool)} {xs : List V}, DpAll K H xs (L.map ibD) → xs = L.map ibV
  | [], xs, h => by cases h; rfl
  | .inl i :: L, xs, h => by
    cases h with
    | cons a b => cases a; rw [ibs_inv b]; rfl
  | .inr i :: L, xs, h => by
    cases h with
    | cons a b => cases a; rw [ibs_inv b]; rfl
theorem ib_at {K : PySem.W.Frag} {H : Hp} {v : V} {e : Bool} {i : Int} {L : List (Sum Int Bool)} (h : Dp K H v (.tuple (.str (kdW e) :: .int i :: L.map ibD))) : ∃ b, v = .ref b ∧ SqT K H b (.str (kdW e) :: .int i :: L.map ibV) := by
  cases h with
  | tup hT hA =>
    cases hA with
    | cons a1 a2 =>
      cases a1
      cases a2 with
      | cons a3 a4 =>
        cases a3
        rw [ibs_inv a4] at hT
        exact ⟨_, rfl, hT⟩
theorem all_left : ∀ {L : List (Sum Int Bool)}, L.all isL = true → L.map ibV = (lefts L).map V.int ∧ (lefts L).length = L.length
  | [], _ => ⟨rfl, rfl⟩
  | .inl i :: L, h => by
    obtain ⟨a, b⟩ := all_left (L := L) (by simpa [isL] using h)
    exact ⟨by show V.int i :: L.map ibV = V.int i :: (lefts L).map V.int; rw [a], by show (lefts L).length + 1 = L.length + 1; rw [b]⟩
  | .inr i :: L, h => by simp [isL] at h
def spIsIntB : Sp := fun vs H Q _ => ∃ x : Sum Int Bool, vs = [ibV x] ∧ Q (.bl (isL x)) H
def spFormB (K : PySem.W.Frag) : Sp := fun vs H Q _ => ∃ (v : V) (d : PyData) (o : Option (Bool × Int × List Int)), vs = [v] ∧ Dp K H v d ∧ PF d o ∧ ∀ H', Same H H' → Q (.bl o.isSome) H'
def spRowAtB (K : PySem.W.Frag) (CP CI : Addr) : Sp := fun vs H Q E => ∃ (pa : Addr) (v : V) (d : PyData) (p : PP) (m : Nat) (o : Option (Bool × Int × List Int)), vs = [.ref pa, v] ∧ ProgAt K H CP pa p ∧ p.Ok m ∧ m ≤ 16 ∧ Dp K H v d ∧ PF d o ∧
  (∀ (x : V) (r : Td.Row) H', Same H H' → rowP p o = some r → Tn K H' x (rowD r) → Q x H') ∧ (rowP p o = none → Rz CI "path" v H E)
section
variable {P : Program} {w : World} {K : PySem.W.Frag} {mg : Str → Option Value} {base : Heap}
theorem ok_InvalidPath (T : Tops w K mg) : FnOk P w K mg base CX0 1 T.a_InvalidPath_init T.d_InvalidPath_init ["self", "path"] (spExc K T.c_InvalidPath "path") := by
  refine T.F_InvalidPath_init.ok sc_InvalidPath_init (fun vs H Q E h => ?_) (fun cdv A outer s H vs Q E hr h => ?_)
  · obtain ⟨a, y, rfl, _⟩ := h
    rfl
  obtain ⟨a, y, rfl, ha, q⟩ := h
  exact ⟨_, (pss_one (ps_ost (pv 0) (pv 1))), _, rfl, _, rfl, a, T.c_InvalidPath, rfl, T.x_InvalidPath, T.n_InvalidPath_path, .inl ⟨ha, fun dx h1 h2 => q dx _ h1 h2 rfl⟩⟩
theorem ok_is_integerB (T : Tops w K mg) : FnOk P w K mg base CX0 1 T.a_is_integer T.d_is_integer ["value"] spIsIntB := by
  refine T.F_is_integer.ok sc_is_integer (fun vs H Q E h => ?_) (fun cdv A outer s H vs Q E hr h => ?_)
  · obtain ⟨i, rfl, _⟩ := h
    rfl
  obtain ⟨x, rfl, q⟩ := h
  refine ⟨_, (pss_one (ps_ret (pe_and (pe_callB call_isi rfl T.z_isinstance (by decide +kernel) (pa_cons (pv 0) (pa_cons (pe_bltn (v := .ty "int") rfl T.z_int (by decide +kernel) rfl) pa_nil))) (pe_one (pe_not (pe_callB call_isi rfl T.z_isinstance (by decide +kernel) (pa_cons (pv 0) (pa_cons (pe_bltn (v := .ty "bool") rfl T.z_bool (by decide +kernel) rfl) pa_nil)))))))), ?_⟩
  cases x with
  | inl i =>
    refine ⟨_, rfl, .int i, .ty "int", .type "int", .type "int", true, rfl, .ty _, .base (.int i), kit_ty (by decide +kernel), ?_⟩
    refine ⟨_, rfl, if_true_of rfl ?_⟩
    refine ⟨_, rfl, .int i, .ty "bool", .type "int", .type "bool", false, rfl, .ty _, .base (.int i), kit_ty (by decide +kernel), ?_⟩
    exact ⟨_, rfl, q⟩
  | inr b =>
    refine ⟨_, rfl, .bl b, .ty "int", .type "bool", .type "int", true, rfl, .ty _, .base (.bl b), kit_ty (by decide +kernel), ?_⟩
    refine ⟨_, rfl, if_true_of rfl ?_⟩
    refine ⟨_, rfl, .bl b, .ty "bool", .type "bool", .type "bool", true, rfl, .ty _, .base (.bl b), kit_ty (by decide +kernel), ?_⟩
    exact ⟨_, rfl, q⟩
theorem ok_formB (T : Tops w K mg) (G_is_integer : FnOk P w K mg base CX0 1 T.a_is_integer T.d_is_integer ["value"] spIsIntB) : FnOk P w K mg base CX0 2 T.a_is_path_form T.d_is_path_form ["value"] (spFormB K) := by
  refine T.F_is_path_form.ok sc_is_path_form (fun vs H Q E h => ?_) (fun cdv A outer s H vs Q E hr h => ?_)
  · obtain ⟨v, d, o, rfl, _⟩ := h
    rfl
  obtain ⟨v, d, o, rfl, hD, hp, q⟩ := h
  refine ⟨_, (pss_cons (ps_if (PW.pt (pw_or (pt_not (pt_val (pe_callB call_isi rfl T.z_isinstance (by decide +kernel) (pa_cons (pv 0) (pa_cons (pe_bltn (v := .ty "tuple") rfl T.z_tuple (by decide +kernel) rfl) pa_nil))))) (pw_or1 (pt_cmpR op_lt (pe_callB call_len rfl T.z_len PySem.boot_len (pa_cons (pv 0) pa_nil)) pe_int (nomark _))))) (pss_one (ps_ret pe_bl)) pss_nil)
    (pss_cons (ps_ifC (PW.pt (pw_and (pt_cmpR (op_neD hr.units) (pe_ix ix_tup (pv 0) pe_int (fun _ _ => rfl)) pe_str (nomark _)) (pw_and1 (pt_cmpR (op_neD hr.units) (pe_ix ix_tup (pv 0) pe_int (fun _ _ => rfl)) pe_str (nomark _))))) (pss_one (ps_ret pe_bl)) pss_nil)
    (pss_one (ps_ret (pe_callB (cr_all rfl) rfl T.z_all (by decide +kernel) (pa_cons (pe_lc (own := [(("step" : Str), 1)]) (wi := (iTup K (tSl (rSlA K) (tVar 0) (tPart (tC (.int 1))) tNoPart))) (g := gName 1) (tt := tYes) (te := (tCall spIsIntB [] E0 (tCons (tVar 1) tNil))) rfl sc_is_path_form.nd (pi_tup (pe_slice sl_tupA (pv 0) (po_some pe_int) po_none)) (blkOk_by (own := [(("step" : Str), 1)]) (N := N_is_path_form) (sc := defScope s_is_path_form) (by decide +kernel)) (fun _ _ _ _ _ => (pg_name (i := 1) sc_is_path_form.nd rfl (Or.inl rfl))) (fun _ _ _ _ _ => pts_nil) (fun _ _ _ _ _ => (pe_call G_is_integer (hr.mono (by omega)) rfl T.m_is_integer T.F_is_integer.kp T.b_is_integer .nil pass0 (pa_cons (pv 1) pa_nil)))) pa_nil)))))), ?_⟩
  refine ⟨_, rfl, v, .ty "tuple", .type (tyD d), .type "tuple", isTup d, rfl, .ty _, ty_data hD, kit_tuple d, isTup d, rfl, ?_⟩
  cases hp with
  | non hn =>
    rw [hn]
    exact if_true_of rfl (q H (Same.refl _))
  | @short ds hs =>
    refine if_false_of rfl ?_
    cases hD with
    | @tup b xs _ hT hA =>
      have xl := dp_len hA
      refine ⟨_, rfl, .ref b, _, rfl, .inr ⟨_, hT, rfl⟩, _, _, rfl, rfl, _, rfl, if_true_of (decide_eq_true (by omega)) ?_⟩
      exact q H (Same.refl _)
  | @ib e i L hne hL =>
    refine if_false_of rfl ?_
    obtain ⟨b, rfl, hB⟩ := ib_at hD
    have lp := List.length_pos_iff.mpr hne
    refine ⟨_, rfl, .ref b, _, rfl, .inr ⟨_, hB, rfl⟩, _, _, rfl, rfl, _, rfl, if_false_of (decide_eq_false (by rw [List.length_cons, List.length_cons, List.length_map]; omega)) ?_⟩
    have a0 : atI (V.str (kdW e) :: .int i :: L.map ibV) 0 = some (.str (kdW e)) := atI_nat (j := 0) rfl
    have shp : SeqAt.shaped (.str (kdW e)) = true := by cases e <;> decide +kernel
    refine ⟨fun H1 => H1 = H, ?_, ?_⟩
    · refine ⟨_, rfl, b, _, 0, _, rfl, rfl, hB, a0, .str _, .str "derived", .str _, .str _, shp, by decide +kernel, _, rfl, ?_⟩
      refine if_known (fun h => ?_) (fun h => ?_)
      · have ee : e = true := by
          cases e with
          | true => rfl
          | false => exact absurd h (by decide +kernel)
        exact ⟨_, rfl, b, _, 0, _, rfl, rfl, hB, a0, .str _, .str "effects", .str _, .str _, shp, by decide +kernel, _, rfl, if_false_of (by rw [ee]; decide +kernel) rfl⟩
      · exact if_false_of rfl rfl
    rintro H1 rfl
    refine ⟨_, rfl, 1, rfl, ?_⟩
    dsimp only [tNoPart]
    refine sl_all hB fun p1 H2 s2 h2 => ?_
    rw [cut_from1] at h2
    have eD : (V.str (kdW e) :: .int i :: L.map ibV).drop 1 = (Sum.inl i :: L).map ibV := rfl
    rw [eD] at h2
    refine ⟨p1, rfl, ⟨_, h2⟩, fun D hD => fiS_tup (Sum.inl i :: L) ibV (fun _ => true) (fun x => V.bl (isL x)) h2 rfl (by rw [List.length_cons]; omega) hD ?_ ?_⟩
    · rintro k x H' hx hs Yes No yes _
      exact ⟨rfl, tYes_of ⟨_, rfl, x, rfl, yes rfl _ (Same.refl _)⟩⟩
    rintro H3 s3 hD3
    rw [Td.filter_all] at hD3
    have e1 : (Sum.inl i :: L).map (fun x => V.bl (isL x)) = ((Sum.inl i :: L).map isL).map V.bl := by rw [List.map_map]; rfl
    rw [e1] at hD3
    refine ⟨D, _, rfl, SqL.of hD3, ?_⟩
    have e2 : ((Sum.inl i :: L).map isL).all id = (pathOf e i L).isSome := by
      rw [List.all_map]
      show (isL (Sum.inl i) && L.all isL) = _
      unfold pathOf
      cases L.all isL <;> rfl
    rw [e2]
    exact q H3 (s2.trans s3)
theorem ok_rowb1 (T : Tops w K mg) {n : Nat} (G_row_behind : FnOk P w K mg base CX0 n T.a_row_behind T.d_row_behind ["rows", "steps"] (spBehindR K n)) :
    FnOk P w K mg base CX0 (n + 1) T.a_row_behind T.d_row_behind ["rows", "steps"] (spBehindR K (n + 1)) := by
  refine T.F_row_behind.ok sc_row_behind (fun vs H Q E h => ?_) (fun cdv A outer s H vs Q E hr h => ?_)
  · obtain ⟨v, b, rs, st, S, dep, rfl, _⟩ := h
    rfl
  obtain ⟨v, b, rs, st, S, dep, rfl, hD, hB, ok, hl, hc, hdep, hn, qn, qs⟩ := h
  refine ⟨_, (pss_cons (ps_if (PW.pt (pw_or (pt_cmpR op_eq (pe_callB call_len rfl T.z_len PySem.boot_len (pa_cons (pv 1) pa_nil)) pe_int (nomark _)) (pw_or1 (pt_not (pt_chain op_le op_lt pe_int (pe_ix ix_tup (pv 1) pe_int (fun _ _ => rfl)) (pe_callB call_len rfl T.z_len PySem.boot_len (pa_cons (pv 0) pa_nil))))))) (pss_one (ps_ret pe_non)) pss_nil)
    (pss_cons (ps_set (i := 2) sc_row_behind.nd rfl (Or.inl rfl) (pe_ix ix_tup (pv 0) (pe_ix ix_tup (pv 1) pe_int (fun _ _ => rfl)) (fun _ _ => rfl)))
    (pss_cons (ps_if (pt_cmpR op_eq (pe_callB call_len rfl T.z_len PySem.boot_len (pa_cons (pv 1) pa_nil)) pe_int (nomark _)) (pss_one (ps_ret (pv 2))) pss_nil)
    (pss_cons (ps_if (PW.pt (pw_or (pt_cmpR op_ne (pe_ix ix_tup (pv 2) pe_int (fun _ _ => rfl)) pe_str (nomark _)) (pw_or1 (pt_cmpR op_notIn_seq (pe_ix ix_tup (pv 1) pe_int (fun _ _ => rfl)) (pe_tup (pa_cons pe_int (pa_cons pe_int pa_nil))) (by rfl))))) (pss_one (ps_ret pe_non)) pss_nil)
    (pss_one (ps_ret (pe_call G_row_behind (hr.mono (by omega)) rfl T.m_row_behind T.F_row_behind.kp T.b_row_behind .nil pass0 (pa_cons (pe_ix ix_tup (pv 2) (pe_op op_add pe_int (pe_ix ix_tup (pv 1) pe_int (fun _ _ => rfl))) (fun _ _ => rfl)) (pa_cons (pe_slice sl_tupA (pv 1) (po_some pe_int) po_none) pa_nil))))))))), ?_⟩
  obtain ⟨va, xs, rfl, hS, hX⟩ := Tn.tup_inv hD
  refine ⟨_, rfl, .ref b, _, rfl, .inr ⟨_, hB, rfl⟩, rfl, _, rfl, ?_⟩
  have xl : xs.length = rs.length := by rw [hX.length, rowsD_length]
  rw [List.length_map]
  match st, hB, qn, qs with
  | [], hB, qn, qs =>
    refine if_true_of (by decide) ?_
    refine if_true_of rfl ?_
    exact qn H (Same.refl _) (by unfold rowAt; rfl)
  | i :: st', hB, qn, qs =>
    refine if_false_of (decide_eq_false fun z => by injection z with z; rw [List.length_cons] at z; omega) ?_
    have b0 : atI ((i :: st').map V.int) 0 = some (.int i) := atI_nat (j := 0) rfl
    refine ⟨_, rfl, b, _, 0, _, rfl, rfl, hB, b0, _, _, rfl, rfl, _, rfl, ?_⟩
    by_cases h0 : 0 ≤ i
    · refine if_true_of (decide_eq_true h0) ?_
      refine ⟨_, rfl, .ref va, _, rfl, .inr ⟨_, hS, rfl⟩, _, _, rfl, rfl, _, rfl, ?_⟩
      obtain ⟨k, rfl⟩ : ∃ k : Nat, i = (k : Nat) := ⟨i.toNat, by omega⟩
      by_cases h1 : k < xs.length
      · refine if_false_of (by rw [decide_eq_true (by omega)]; rfl) ?_
        obtain ⟨r, hr⟩ : ∃ r, rs[k]? = some r := ⟨_, List.getElem?_eq_getElem (by omega)⟩
        obtain ⟨x, hx⟩ : ∃ x, xs[k]? = some x := ⟨_, List.getElem?_eq_getElem h1⟩
        obtain ⟨d, hd1, hd2⟩ := TnAll.get hX hx
        rw [rowsD_get hr] at hd1
        obtain rfl := Option.some.inj hd1
        refine ⟨_, rfl, _, rfl, b, _, 0, _, rfl, rfl, hB, b0, va, _, (k : Nat), x, rfl, rfl, hS, atI_nat hx, ?_⟩
        refine ⟨_, rfl, .ref b, _, rfl, .inr ⟨_, hB, rfl⟩, rfl, _, rfl, ?_⟩
        rw [List.length_map]
        obtain ⟨ra, zs, rfl, hR, hz0⟩ := row_at (Tn.dp hd2)
        have okr := okRs_get ok hr
        cases st' with
        | nil =>
          refine if_true_of (decide_eq_true rfl) ⟨_, rfl, ?_⟩
          exact qs _ r H (Same.refl _) (by unfold rowAt; rw [getI_nat]; exact hr) hd2
        | cons j st2 =>
          refine if_false_of (decide_eq_false fun z => by injection z with z; rw [List.length_cons, List.length_cons] at z; omega) ?_
          have b1 : atI (((k : Nat) : Int) :: j :: st2 |>.map V.int) 1 = some (.int j) := atI_nat (j := 1) rfl
          have nope : ∀ H', Same H H' → ((∀ s u y n, r ≠ .ite s u y n) ∨ (j ≠ 0 ∧ j ≠ 1)) → Q .non H' := fun H' s' h => by
            refine qn H' s' ?_
            unfold rowAt
            rw [getI_nat, hr]
            cases r with
            | ite s u y n =>
              rcases h with h | ⟨h2, h3⟩
              · exact absurd rfl (h s u y n)
              · show (if j = 0 then _ else if j = 1 then _ else _) = _
                rw [if_neg h2, if_neg h3]
            | _ => rfl
          refine ⟨_, rfl, ra, _, 0, _, rfl, rfl, hR, atI_nat (j := 0) hz0, rfl, _, rfl, ?_⟩
          rw [tag_if]
          cases hi : isIte r with
          | false =>
            refine if_true_of rfl ?_
            refine if_true_of rfl ?_
            exact nope H (Same.refl _) (.inl fun s u y n e => by rw [e] at hi; cases hi)
          | true =>
            refine if_false_of rfl ?_
            obtain ⟨sl, u, y, n', rfl⟩ : ∃ s u y n', r = .ite s u y n' := by
              cases r with
              | ite s u y n => exact ⟨s, u, y, n, rfl⟩
              | _ => cases hi
            refine ⟨_, rfl, b, _, 1, _, rfl, rfl, hB, b1, by show 2 ≤ sizeLine; decide, fun t ht => ?_⟩
            have z1 := Same.new ht (.tup [V.int 0, .int 1])
            refine ⟨t, _, rfl, .inr (SqT.of upd_same), rfl, rfl, _, rfl, ?_⟩
            have ein : inV (.int j) [V.int 0, .int 1] = (decide (j = 0) || decide (j = 1)) := by
              show (eqV (.int 0) (.int j) || (eqV (.int 1) (.int j) || false)) = _
              rw [Bool.or_false]
              congr 1
              · by_cases h : j = 0
                · subst h; rfl
                · rw [decide_eq_false h]; simp [eqV]; omega
              · by_cases h : j = 1
                · subst h; rfl
                · rw [decide_eq_false h]; simp [eqV]; omega
            rw [ein]
            have hB2 := SqT.same z1 hB
            have hd3 := Tn.same z1 hd2
            generalize upd H t (.tup [V.int 0, .int 1]) = H2 at z1 hB2 hd3
            obtain ⟨ra', vy, vn, er, hR2, hyD, hnD⟩ := ite_tn hd3
            cases er
            unfold okR at okr
            by_cases hj : j = 0 ∨ j = 1
            · refine if_false_of (by rcases hj with h | h <;> subst h <;> rfl) ?_
              have ecn := cnts_get hr
              have ec2 : Td.cnt (.ite sl u y n') = 1 + cnts y + cnts n' := by unfold Td.cnt; rfl
              obtain ⟨vk, rk, hk, hDk, okk, hck, hat⟩ : ∃ (vk : V) (rk : List Td.Row), atI [V.str "if", .str sl, .str u, vy, vn] (3 + j) = some vk ∧ Tn K H2 vk (.tuple (rowsD rk)) ∧ okRs S (dep + 1) rk ∧ cnts rk ≤ 100 ∧ rowAt rs (((k : Nat) : Int) :: j :: st2) = rowAt rk st2 := by
                have er : rowAt rs (((k : Nat) : Int) :: j :: st2) = if j = 0 then rowAt y st2 else if j = 1 then rowAt n' st2 else none := by
                  conv => lhs; rw [rowAt]
                  rw [getI_nat, hr]
                rcases hj with rfl | rfl
                · exact ⟨vy, y, rfl, hyD, okr.2.2.2.1, by omega, by rw [er, if_pos rfl]⟩
                · exact ⟨vn, n', rfl, hnD, okr.2.2.2.2, by omega, by rw [er, if_neg (by decide), if_pos rfl]⟩
              refine ⟨_, rfl, _, rfl, b, _, 1, _, rfl, rfl, hB2, b1, _, _, rfl, rfl, ra, _, _, vk, rfl, rfl, hR2, hk, _, rfl, 2, rfl, ?_⟩
              dsimp only [tNoPart]
              refine sl_all hB2 fun p1 H3 s3 h3 => ?_
              rw [show cutV ((((k : Nat) : Int) :: j :: st2).map V.int) (some (2 : Int)) none = ((((k : Nat) : Int) :: j :: st2).map V.int).drop 2 from cut_fromN _ 2] at h3
              have s03 := z1.trans s3
              refine ⟨vk, p1, rk, st2, S, dep + 1, rfl, Tn.same s3 hDk, h3, okk, by have := len_cnts rk; omega, hck, by omega, by omega, fun H' s' e => ?_, fun x r H' s' e hx => ?_⟩
              · exact qn H' (s03.trans s') (by rw [hat]; exact e)
              · exact qs x r H' (s03.trans s') (by rw [hat]; exact e) hx
            · refine if_true_of (by rw [decide_eq_false fun h => hj (.inl h), decide_eq_false fun h => hj (.inr h)]; rfl) ?_
              exact nope H2 z1 (.inr ⟨fun h => hj (.inl h), fun h => hj (.inr h)⟩)
      · refine if_true_of (by rw [decide_eq_false (by omega)]; rfl) ?_
        refine qn H (Same.refl _) ?_
        have : rs[k]? = none := List.getElem?_eq_none (by omega)
        cases st' with
        | nil => unfold rowAt; rw [getI_nat]; exact this
        | cons j st' => unfold rowAt; rw [getI_nat, this]
    · refine if_false_of (decide_eq_false h0) ⟨_, rfl, if_true_of rfl ?_⟩
      refine qn H (Same.refl _) ?_
      have : getI rs i = none := if_neg h0
      cases st' with
      | nil => unfold rowAt; exact this
      | cons j st' => unfold rowAt; rw [this]
theorem ok_rowb (T : Tops w K mg) : ∀ k, FnOk P w K mg base CX0 k T.a_row_behind T.d_row_behind ["rows", "steps"] (spBehindR K k)
  | 0 => by
    have no : ∀ vs H Q E, ¬ spBehindR K 0 vs H Q E := fun vs H Q E h => by
      obtain ⟨_, _, _, _, _, dep, _, _, _, _, _, _, h1, h2, _⟩ := h
      omega
    exact ⟨fun vs H Q E h => absurd h (no vs H Q E), fun A outer s H args us vs Q E _ _ _ _ h => absurd h (no vs H Q E)⟩
  | k + 1 => ok_rowb1 T (ok_rowb T k)
theorem ok_row_atB (T : Tops w K mg) (G_is_path_form : FnOk P w K mg base CX0 2 T.a_is_path_form T.d_is_path_form ["value"] (spFormB K))
    (G_row_behind : FnOk P w K mg base CX0 4 T.a_row_behind T.d_row_behind ["rows", "steps"] (spBehindR K 4))
    (G_InvalidPath_init : FnOk P w K mg base CX0 1 T.a_InvalidPath_init T.d_InvalidPath_init ["self", "path"] (spExc K T.c_InvalidPath "path")) :
    FnOk P w K mg base (L2.CX P w) 5 T.a_Program_row_at T.d_Program_row_at ["self", "path"] (spRowAtB K T.c_Program T.c_InvalidPath) := by
  refine T.F_Program_row_at.okX sc_Program_row_at (fun vs H Q E h => ?_) (fun cdv A outer s H vs Q E hr h => ?_)
  · obtain ⟨pa, v, d, p, m, o, rfl, _⟩ := h
    rfl
  obtain ⟨pa, v, d, p, m, o, rfl, hP, ok, hm, hD, hp, fin, bad⟩ := h
  obtain ⟨dx, aw, as, vd, ve, ⟨dn, en, e, hdn, hen⟩, h1, h2, h3, h4⟩ := hP.ex
  obtain ⟨ad, xs, rfl, hA, hl, hx⟩ := pairs_at h3
  obtain ⟨ae, ys, rfl, hA2, hl2, hx2⟩ := pairs_at h4
  refine ⟨_, (pss_cons (ps_set (i := 2) sc_Program_row_at.nd rfl (Or.inl rfl) pe_non)
    (pss_cons (ps_if (pt_val (pe_call G_is_path_form (hr.mono (by omega)) rfl T.m_is_path_form T.F_is_path_form.kp T.b_is_path_form .nil pass0 (pa_cons (pv 1) pa_nil))) (pss_cons (ps_set (i := 3) sc_Program_row_at.nd rfl (Or.inl rfl) (pe_ifExp (pt_cmpR op_eq (pe_ix ix_tup (pv 1) pe_int (fun _ _ => rfl)) pe_str (nomark _)) (pe_fld (pv 0) rfl) (pe_fld (pv 0) rfl)))
    (pss_one (ps_if (pt_chain op_le op_lt pe_int (pe_ix ix_tup (pv 1) pe_int (fun _ _ => rfl)) (pe_callB call_len rfl T.z_len PySem.boot_len (pa_cons (pv 3) pa_nil))) (pss_one (ps_set (i := 2) sc_Program_row_at.nd rfl (Or.inl rfl) (pe_call G_row_behind (hr.mono (by omega)) rfl T.m_row_behind T.F_row_behind.kp T.b_row_behind .nil pass0 (pa_cons (pe_ix ix_tup (pe_ix ix_tup (pv 3) (pe_ix ix_tup (pv 1) pe_int (fun _ _ => rfl)) (fun _ _ => rfl)) pe_int (fun _ _ => rfl)) (pa_cons (pe_slice sl_tupA (pv 1) (po_some pe_int) po_none) pa_nil))))) pss_nil))) pss_nil)
    (pss_cons (ps_if (pt_cmpR op_isN (pv 2) pe_non (nomark _)) (pss_one (ps_raise rfl (takes_of rfl rfl rfl rfl) (pmk_oex T.x_InvalidPath T.xi_InvalidPath T.xt_InvalidPath G_InvalidPath_init (hr.mono (by omega)) T.b_InvalidPath_init .nil pass0 rfl T.m_InvalidPath (pa_cons (pv 1) pa_nil)))) pss_nil)
    (pss_one (ps_ret (pv 2)))))), ?_⟩
  refine ⟨_, rfl, v, d, o, rfl, hD, hp, fun H1 s1 => ⟨_, rfl, ?_⟩⟩
  cases hp with
  | non hn => exact if_false_of rfl ⟨_, rfl, rfl, _, rfl, if_true_of rfl ⟨_, rfl, made_one ((bad rfl).later s1)⟩⟩
  | short hs => exact if_false_of rfl ⟨_, rfl, rfl, _, rfl, if_true_of rfl ⟨_, rfl, made_one ((bad rfl).later s1)⟩⟩
  | @ib ke i L hne hL =>
    cases hall : L.all isL with
    | false =>
      have eo : pathOf ke i L = none := by unfold pathOf; rw [hall]; rfl
      rw [eo] at bad ⊢
      exact if_false_of rfl ⟨_, rfl, rfl, _, rfl, if_true_of rfl ⟨_, rfl, made_one ((bad rfl).later s1)⟩⟩
    | true =>
    have eo : pathOf ke i L = some (ke, i, lefts L) := by unfold pathOf; rw [hall]; rfl
    rw [eo] at fin bad ⊢
    refine if_true_of rfl ?_
    obtain ⟨b, rfl, hB⟩ := ib_at hD
    obtain ⟨el, ll⟩ := all_left hall
    rw [el] at hB
    generalize lefts L = st at hB fin bad el ll
    have a0 : atI (V.str (kdW ke) :: .int i :: st.map V.int) 0 = some (.str (kdW ke)) := atI_nat (j := 0) rfl
    have a1 : atI (V.str (kdW ke) :: .int i :: st.map V.int) 1 = some (.int i) := atI_nat (j := 1) rfl
    have e1 := s1 _ _ e
    have hB1 := SqT.same s1 hB
    obtain ⟨av, zs, epk, hZ, zl, hz⟩ : ∃ (av : Addr) (zs : List V), av = (if ke then ae else ad) ∧ SqT K H av zs ∧ zs.length = (bodiesOf p ke).length ∧
        ∀ (n : Nat) (x : V), zs[n]? = some x → ∃ (q : Str × List Td.Row) (bb : Addr) (vr : V) (S : Sc), (bodiesOf p ke)[n]? = some q ∧ x = .ref bb ∧ SqT K H bb [.str q.1, vr] ∧ Tn K H vr (.tuple (rowsD q.2)) ∧ okRs S 1 q.2 ∧ cnts q.2 ≤ m := by
      cases ke with
      | false =>
        refine ⟨ad, xs, rfl, hA, hl, fun n x hxn => ?_⟩
        obtain ⟨q2, b2, vr, g1, g2, g3, g4⟩ := hx n x hxn
        obtain ⟨o1, o2⟩ := okDer_get ok.der g1
        exact ⟨q2, b2, vr, _, g1, g2, g3, g4, o1, o2⟩
      | true =>
        refine ⟨ae, ys, rfl, hA2, hl2, fun n x hxn => ?_⟩
        obtain ⟨q2, b2, vr, g1, g2, g3, g4⟩ := hx2 n x hxn
        obtain ⟨o1, o2⟩ := okEff_get ok.eff g1
        exact ⟨q2, b2, vr, _, g1, g2, g3, g4, o1, o2⟩
    refine ⟨_, rfl, b, _, 0, _, rfl, rfl, hB1, a0, rfl, _, rfl, ?_⟩
    have go : ∀ {Q' : V → Hp → Prop}, Q' (.ref av) H1 → if decide (V.str (kdW ke) = V.str "derived") = true then tFld K (tVar 0) "derived" [some (.ref pa), some (.ref b), some .non, none] H1 Q' else tFld K (tVar 0) "effects" [some (.ref pa), some (.ref b), some .non, none] H1 Q' := fun {Q'} z => by
      rw [epk] at z
      cases ke with
      | false => exact if_true_of (by decide +kernel) ⟨_, rfl, pa, _, dx, _, _, rfl, e1, T.l_Program, T.n_Program_derived, progF_derived .., z⟩
      | true => exact if_false_of (by decide +kernel) ⟨_, rfl, pa, _, dx, _, _, rfl, e1, T.l_Program, T.n_Program_effects, progF_effects .., z⟩
    refine go ?_
    have hZ1 := SqT.same s1 hZ
    have rp : rowP p (some (ke, i, st)) = (getI (bodiesOf p ke) i).bind fun q => rowAt q.2 st := rfl
    refine ⟨_, rfl, b, _, 1, _, rfl, rfl, hB1, a1, _, _, rfl, rfl, _, rfl, ?_⟩
    by_cases h0 : 0 ≤ i
    · refine if_true_of (decide_eq_true h0) ?_
      refine ⟨_, rfl, .ref av, _, rfl, .inr ⟨_, hZ1, rfl⟩, _, _, rfl, rfl, _, rfl, ?_⟩
      obtain ⟨n, rfl⟩ : ∃ n : Nat, i = (n : Nat) := ⟨i.toNat, by omega⟩
      rw [getI_nat] at rp
      by_cases hn : n < zs.length
      · refine if_true_of (decide_eq_true (by omega)) ?_
        obtain ⟨q, bb, vr, S, hq, ex, hb0, hvr, okS, hc⟩ := hz n _ (List.getElem?_eq_getElem hn)
        have hx0 : zs[n]? = some (.ref bb) := by rw [List.getElem?_eq_getElem hn, ex]
        rw [hq] at rp
        have rp2 : rowP p (some (ke, ((n : Nat) : Int), st)) = rowAt q.2 st := rp
        refine ⟨_, rfl, _, rfl, b, _, 1, _, rfl, rfl, hB1, a1, av, _, _, .ref bb, rfl, rfl, hZ1, atI_nat hx0, bb, _, 1, vr, rfl, rfl, SqT.same s1 hb0, rfl, _, rfl, 2, rfl, ?_⟩
        dsimp only [tNoPart]
        refine sl_all hB1 fun p1 H2 s2 h2' => ?_
        rw [show cutV (V.str (kdW ke) :: .int ((n : Nat) : Int) :: st.map V.int) (some (2 : Int)) none = st.map V.int from cut_fromN _ 2] at h2'
        have s02 := s1.trans s2
        refine ⟨vr, p1, q.2, st, S, 1, rfl, Tn.same s02 hvr, h2', okS, by have := len_cnts q.2; omega, by omega, by decide, by decide, fun H' s' z => ?_, fun x r' H' s' z hx' => ?_⟩
        · exact ⟨_, rfl, rfl, _, rfl, if_true_of rfl ⟨_, rfl, made_one ((bad (rp2.trans z)).later (s02.trans s'))⟩⟩
        obtain ⟨ar, zs2, rfl, hR, _⟩ := row_at (Tn.dp hx')
        exact ⟨_, rfl, rfl, _, rfl, if_false_of (decide_eq_false fun z => nomatch z) ⟨_, rfl, fin _ r' H' (s02.trans s') (rp2.trans z) hx'⟩⟩
      · have rn : rowP p (some (ke, ((n : Nat) : Int), st)) = none := by rw [rp, List.getElem?_eq_none (by omega)]; rfl
        exact if_false_of (decide_eq_false (by omega)) ⟨_, rfl, rfl, _, rfl, if_true_of rfl ⟨_, rfl, made_one ((bad rn).later s1)⟩⟩
    · have rn : rowP p (some (ke, i, st)) = none := by rw [rp]; unfold getI; rw [if_neg h0]; rfl
      refine if_false_of (decide_eq_false h0) ?_
      exact ⟨_, rfl, if_false_of rfl ⟨_, rfl, rfl, _, rfl, if_true_of rfl ⟨_, rfl, made_one ((bad rn).later s1)⟩⟩⟩
end
end K77
namespace K77
open PySem PySem.Spec PyProof.Rows L2 Td
def isRdO : Option Td.Row → Bool
  | some (.rd false _ _) => true
  | _ => false
theorem tag_read (r : Td.Row) : decide (V.str (rowTag r) = V.str "read") = isRdO (some r) := by
  cases r with
  | rd pk c s =>
    cases pk
    · show decide (V.str "read" = V.str "read") = true; decide +kernel
    · show decide (V.str "peek" = V.str "read") = false; decide +kernel
  | put => show decide (V.str "put" = V.str "read") = false; decide +kernel
  | give => show decide (V.str "give" = V.str "read") = false; decide +kernel
  | say => show decide (V.str "say" = V.str "read") = false; decide +kernel
  | wr => show decide (V.str "write" = V.str "read") = false; decide +kernel
  | ite => show decide (V.str "if" = V.str "read") = false; decide +kernel
def chS (pk : Bool) : Str := if pk then "peek" else "early"
/-! ### any data as a change -/
inductive CF : PyData → Option (Str × Option (Bool × Int × List Int)) → Prop
  | no {d : PyData} (h : isTup d = false) : CF d none
  | len {ds : List PyData} (h : ds.length ≠ 2) (l : ds.length ≤ 100) : CF (.tuple ds) none
  | two {z : Str} {pd : PyData} {o : Option (Bool × Int × List Int)} (h : PF pd o) : CF (.tuple [.str z, pd]) (some (z, o))
def chgOk (p : PP) : Option (Str × Option (Bool × Int × List Int)) → Bool
  | some (z, o) => isRdO (rowP p o) && (decide (z = "early") || (decide (z = "peek") && ((o.map (·.1)).getD false)))
  | none => false
def spIsChD (K : PySem.W.Frag) (CP : Addr) : Sp := fun vs H Q _ => ∃ (pa : Addr) (v : V) (d : PyData) (p : PP) (m : Nat) (c : Option (Str × Option (Bool × Int × List Int))), vs = [.ref pa, v] ∧ ProgAt K H CP pa p ∧ p.Ok m ∧ m ≤ 16 ∧ Dp K H v d ∧ CF d c ∧ ∀ H', Same H H' → Q (.bl (chgOk p c)) H'
theorem str_dec (a b : Str) : decide (V.str a = V.str b) = decide (a = b) := by
  by_cases h : a = b
  · rw [h, decide_eq_true rfl, decide_eq_true rfl]
  · rw [decide_eq_false h, decide_eq_false fun e => h (by injection e)]
section
variable {P : Program} {w : World} {K : PySem.W.Frag} {mg : Str → Option Value} {base : Heap}
theorem ok_is_chD (T : Tops w K mg) (G_Program_row_at : FnOk P w K mg base (L2.CX P w) 5 T.a_Program_row_at T.d_Program_row_at ["self", "path"] (spRowAtB K T.c_Program T.c_InvalidPath)) :
    FnOk P w K mg base CX0 6 T.a_is_change T.d_is_change ["program", "value"] (spIsChD K T.c_Program) := by
  refine T.F_is_change.ok sc_is_change (fun vs H Q E h => ?_) (fun cdv A outer s H vs Q E hr h => ?_)
  · obtain ⟨pa, v, d, p, m, c, rfl, _⟩ := h
    rfl
  obtain ⟨pa, v, d, p, m, c, rfl, hP, ok, hm, hD, hc, fin⟩ := h
  obtain ⟨dx, aw, as, vd, ve, ⟨dn, en, e, hdn, hen⟩, h1, h2, h3, h4⟩ := hP.ex
  refine ⟨_, (pss_cons (ps_if (PW.pt (pw_or (pt_not (pt_val (pe_callB call_isi rfl T.z_isinstance (by decide +kernel) (pa_cons (pv 1) (pa_cons (pe_bltn (v := .ty "tuple") rfl T.z_tuple (by decide +kernel) rfl) pa_nil))))) (pw_or1 (pt_cmpR op_ne (pe_callB call_len rfl T.z_len PySem.boot_len (pa_cons (pv 1) pa_nil)) pe_int (nomark _))))) (pss_one (ps_ret pe_bl)) pss_nil)
    (pss_cons (ps_asg (pv 1) (pg_tup rfl (pgs_cons (pg_name (i := 2) sc_is_change.nd rfl (Or.inl rfl)) (pgs_cons (pg_name (i := 3) sc_is_change.nd rfl (Or.inl rfl)) pgs_nil))))
    (pss_cons (ps_try_only rfl rfl ⟨rfl, by decide, .inl T.m_InvalidPath⟩ takes0 (fun W pn xe tk _ => (pss_one (ps_set (i := 4) sc_is_change.nd rfl (Or.inl rfl) (pe_methAt (pv 0) T.l_Program T.t_Program_row_at G_Program_row_at (hr.mono (by omega)) T.b_Program_row_at (fun σ => passAt tk σ) (pa_cons (pv 3) pa_nil))))) (fun a oe cls d pn _ _ => (pss_one (ps_ret pe_bl))))
    (pss_cons (ps_if (pt_cmpR op_ne (pe_ix ix_tup (pv 4) pe_int (fun _ _ => rfl)) pe_str (nomark _)) (pss_one (ps_ret pe_bl)) pss_nil)
    (pss_one (ps_ret (pe_or (pe_cmpR op_eq (pv 2) pe_str (nomark _)) (pe_one (pe_and (pe_cmpR op_eq (pv 2) pe_str (nomark _)) (pe_one (pe_cmpR op_eq (pe_ix ix_tup (pv 3) pe_int (fun _ _ => rfl)) pe_str (nomark _)))))))))))), ?_⟩
  refine ⟨_, rfl, v, .ty "tuple", .type (tyD d), .type "tuple", isTup d, rfl, .ty _, ty_data hD, kit_tuple d, isTup d, rfl, ?_⟩
  cases hc with
  | no hn =>
    rw [hn]
    exact if_true_of rfl (fin H (Same.refl _))
  | @len ds hl hl2 =>
    refine if_false_of rfl ?_
    cases hD with
    | @tup b xs _ hT hA =>
      have xl := dp_len hA
      refine ⟨_, rfl, .ref b, _, rfl, .inr ⟨_, hT, rfl⟩, rfl, _, rfl, if_true_of ?_ (fin H (Same.refl _))⟩
      show (!decide (V.int (xs.length : Nat) = V.int 2)) = true
      rw [decide_eq_false fun z => hl (by injection z with z; omega)]
      rfl
  | @two z pd o hp =>
    refine if_false_of rfl ?_
    obtain ⟨t, x, rfl, hT, hx⟩ : ∃ t x, v = .ref t ∧ SqT K H t [.str z, x] ∧ Dp K H x pd := by
      cases hD with
      | tup hT hA =>
        cases hA with
        | cons a1 a2 =>
          cases a1
          cases a2 with
          | cons a3 a4 => cases a4; exact ⟨_, _, rfl, hT, a3⟩
    refine ⟨_, rfl, .ref t, _, rfl, .inr ⟨_, hT, rfl⟩, rfl, _, rfl, if_false_of rfl ?_⟩
    refine ⟨_, rfl, t, _, rfl, hT, rfl, _, _, rfl, _, _, rfl, rfl, ?_⟩
    refine ⟨_, rfl, pa, dx, _, rfl, e, by kernel_rfl, _, rfl, pa, x, pd, p, m, o, rfl, hP, ok, hm, hx, hp, fun xv r H1 s1 hr' hv => ?_, fun hn d' H' s' n' ed => ?_⟩
    · obtain ⟨ra, zs, rfl, hR, hz0⟩ := row_at (Tn.dp hv)
      refine ⟨_, rfl, ra, _, 0, _, rfl, rfl, hR, atI_nat (j := 0) hz0, rfl, _, rfl, ?_⟩
      show if (!decide (V.str (rowTag r) = V.str "read")) = true then _ else _
      rw [tag_read]
      have ek : chgOk p (some (z, o)) = (isRdO (some r) && (decide (z = "early") || (decide (z = "peek") && ((o.map (·.1)).getD false)))) := by
        show (isRdO (rowP p o) && _) = _
        rw [hr']
      rw [ek] at fin
      cases hrd : isRdO (some r) with
      | false =>
        rw [hrd] at fin
        exact if_true_of rfl (fin H1 s1)
      | true =>
        rw [hrd, Bool.true_and] at fin
        refine if_false_of rfl ?_
        obtain ⟨ke, i, st, eo⟩ : ∃ ke i st, o = some (ke, i, st) := by
          cases o with
          | none => cases hr'
          | some c => exact ⟨c.1, c.2.1, c.2.2, rfl⟩
        refine ⟨_, rfl, rfl, _, rfl, ?_⟩
        rw [str_dec]
        by_cases hz : z = "early"
        · rw [decide_eq_true hz] at fin ⊢
          exact if_true_of rfl (fin H1 s1)
        · rw [decide_eq_false hz, Bool.false_or] at fin
          rw [decide_eq_false hz]
          refine if_false_of rfl ?_
          refine ⟨_, rfl, rfl, _, rfl, ?_⟩
          rw [str_dec]
          by_cases hz2 : z = "peek"
          · rw [decide_eq_true hz2, Bool.true_and] at fin
            rw [decide_eq_true hz2]
            refine if_true_of rfl ?_
            cases hp with
            | non _ => cases eo
            | short _ => cases eo
            | @ib ke2 i2 L hne hL =>
              obtain ⟨b, rfl, hB⟩ := ib_at hx
              have ee : ke2 = ke := by
                unfold pathOf at eo
                split at eo
                · exact congrArg (fun c => c.1) (Option.some.inj eo)
                · cases eo
              rw [eo] at fin
              have fin2 : ∀ H', Same H H' → Q (.bl ke) H' := fin
              refine ⟨_, rfl, b, _, 0, _, rfl, rfl, SqT.same s1 hB, atI_nat (j := 0) rfl, rfl, ?_⟩
              rw [ee]
              have ek2 : decide (V.str (kdW ke) = V.str "effects") = ke := by cases ke <;> decide +kernel
              rw [ek2]
              exact fin2 H1 s1
          · rw [decide_eq_false hz2, Bool.false_and] at fin
            rw [decide_eq_false hz2]
            exact if_false_of rfl (fin H1 s1)
    · refine ⟨true, T.xe_InvalidPath, fun _ a ha => ?_, fun z => nomatch z⟩
      have ek : chgOk p (some (z, o)) = false := by
        show (isRdO (rowP p o) && _) = _
        rw [hn]; rfl
      rw [ek] at fin
      exact fin H' s'
end
end K77
namespace K77
open PySem PySem.Spec PyProof.Rows L2 Td
theorem rowsD_map : ∀ rs : List Td.Row, rowsD rs = rs.map rowD
  | [] => by unfold rowsD; rfl
  | r :: rs => by unfold rowsD; rw [rowsD_map rs]; rfl
theorem tn_tk {K : PySem.W.Frag} {H : Hp} : ∀ {xs : List V} {ds : List PyData} (k : Nat), TnAll K H xs ds → TnAll K H (xs.take k) (ds.take k)
  | _, _, 0, _ => .nil
  | _, _, k + 1, .nil => .nil
  | _, _, k + 1, .cons a b => .cons a (tn_tk k b)
theorem tn_dr {K : PySem.W.Frag} {H : Hp} : ∀ {xs : List V} {ds : List PyData} (k : Nat), TnAll K H xs ds → TnAll K H (xs.drop k) (ds.drop k)
  | _, _, 0, h => h
  | _, _, k + 1, .nil => .nil
  | _, _, k + 1, .cons _ b => tn_dr k b
theorem tn_put {K : PySem.W.Frag} {H : Hp} {xs : List V} {rs : List Td.Row} {x : V} {r : Td.Row} {k : Nat} (h : TnAll K H xs (rowsD rs)) (hk : k < rs.length) (hx : Tn K H x (rowD r)) : TnAll K H ((xs.take k ++ [x]) ++ xs.drop (k + 1)) (rowsD (rs.set k r)) := by
  have e : rowsD (rs.set k r) = ((rowsD rs).take k ++ [rowD r]) ++ (rowsD rs).drop (k + 1) := by
    rw [rowsD_map, rowsD_map, List.set_eq_take_append_cons_drop, if_pos hk, List.map_append, List.map_cons, List.map_take, List.map_drop, List.append_assoc]
    rfl
  rw [e]
  exact TnAll.append (TnAll.append (tn_tk k h) (.cons hx .nil)) (tn_dr (k + 1) h)
theorem pkRs_at : ∀ (st : List Int) {rs ts : List Td.Row} {r : Td.Row}, pkRs rs ts → rowAt rs st = some r → ∃ t, rowAt ts st = some t ∧ pkR r t
  | [], rs, ts, r, _, e => by unfold rowAt at e; cases e
  | [i], rs, ts, r, h, e => by
    obtain ⟨k, rfl, e⟩ := rowAt_one e
    obtain ⟨t, h1, h2⟩ := pkRs_get h e
    exact ⟨t, by unfold rowAt; rw [getI_nat]; exact h1, h2⟩
  | i :: j :: st, rs, ts, r, h, e => by
    obtain ⟨k, s', u, y, n, rfl, e1, e2⟩ := rowAt_two e
    obtain ⟨t, ht, hp⟩ := pkRs_get h e1
    unfold pkR at hp
    obtain ⟨y', n', rfl, hy, hn⟩ := hp
    have step : rowAt ts (((k : Nat) : Int) :: j :: st) = if j = 0 then rowAt y' st else if j = 1 then rowAt n' st else none := by
      conv => lhs; rw [rowAt]
      rw [getI_nat, ht]
    rcases e2 with ⟨rfl, e2⟩ | ⟨rfl, e2⟩
    · obtain ⟨t2, a, b⟩ := pkRs_at st hy e2
      exact ⟨t2, by rw [step, if_pos rfl]; exact a, b⟩
    · obtain ⟨t2, a, b⟩ := pkRs_at st hn e2
      exact ⟨t2, by rw [step, if_neg (by decide), if_pos rfl]; exact a, b⟩
def spRowsWith (K : PySem.W.Frag) (n : Nat) : Sp := fun vs H Q _ => ∃ (v : V) (b : Addr) (x : V) (rs : List Td.Row) (st : List Int) (r0 r : Td.Row) (S : Sc) (dep : Nat), vs = [v, .ref b, x] ∧ Tn K H v (.tuple (rowsD rs)) ∧ SqT K H b (st.map V.int) ∧ Tn K H x (rowD r) ∧ rowAt rs st = some r0 ∧ okRs S dep rs ∧ cnts rs ≤ 100 ∧ dep ≤ 4 ∧ 5 ≤ dep + n ∧
  ∀ (v' : V) H', Same H H' → Tn K H' v' (.tuple (rowsD (setAt rs st r))) → Q v' H'
section
variable {P : Program} {w : World} {K : PySem.W.Frag} {mg : Str → Option Value} {base : Heap}
theorem ok_with1 (T : Tops w K mg) {n : Nat} (G_rows_with : FnOk P w K mg base CX0 n T.a_rows_with T.d_rows_with ["rows", "steps", "row"] (spRowsWith K n)) :
    FnOk P w K mg base CX0 (n + 1) T.a_rows_with T.d_rows_with ["rows", "steps", "row"] (spRowsWith K (n + 1)) := by
  refine T.F_rows_with.ok sc_rows_with (fun vs H Q E h => ?_) (fun cdv A outer s H vs Q E hr h => ?_)
  · obtain ⟨v, b, x, rs, st, r0, r, S, dep, rfl, _⟩ := h
    rfl
  obtain ⟨v, b, x, rs, st, r0, r, S, dep, rfl, hD, hB, hX, hat, ok, hc, hdep, hn, q⟩ := h
  obtain ⟨va, xs, rfl, hS, hT⟩ := Tn.tup_inv hD
  have xl : xs.length = rs.length := by rw [hT.length, rowsD_length]
  have rl := len_cnts rs
  refine ⟨_, (pss_cons (ps_set (i := 3) sc_rows_with.nd rfl (Or.inl rfl) (pe_ix ix_tup (pv 1) pe_int (fun _ _ => rfl)))
    (pss_cons (ps_set (i := 4) sc_rows_with.nd rfl (Or.inl rfl) (pv 2))
    (pss_cons (ps_if (pt_cmpR op_gt (pe_callB call_len rfl T.z_len PySem.boot_len (pa_cons (pv 1) pa_nil)) pe_int (nomark _)) (pss_cons (ps_set (i := 5) sc_rows_with.nd rfl (Or.inl rfl) (pe_ix ix_tup (pv 0) (pv 3) (fun _ _ => rfl)))
    (pss_cons (ps_set (i := 6) sc_rows_with.nd rfl (Or.inl rfl) (pe_op op_add pe_int (pe_ix ix_tup (pv 1) pe_int (fun _ _ => rfl))))
    (pss_cons (ps_set (i := 7) sc_rows_with.nd rfl (Or.inl rfl) (pe_call G_rows_with (hr.mono (by omega)) rfl T.m_rows_with T.F_rows_with.kp T.b_rows_with .nil pass0 (pa_cons (pe_ix ix_tup (pv 5) (pv 6) (fun _ _ => rfl)) (pa_cons (pe_slice sl_tupA (pv 1) (po_some pe_int) po_none) (pa_cons (pv 2) pa_nil)))))
    (pss_one (ps_set (i := 4) sc_rows_with.nd rfl (Or.inl rfl) (pe_op op_catA (pe_op op_catA (pe_slice sl_tupA (pv 5) po_none (po_some (pv 6))) (pe_tup (pa_cons (pv 7) pa_nil))) (pe_slice sl_tupA (pv 5) (po_some (pe_op op_add (pv 6) pe_int)) po_none))))))) pss_nil)
    (pss_one (ps_ret (pe_op op_catA (pe_op op_catA (pe_slice sl_tupA (pv 0) po_none (po_some (pv 3))) (pe_tup (pa_cons (pv 4) pa_nil))) (pe_slice sl_tupA (pv 0) (po_some (pe_op op_add (pv 3) pe_int)) po_none))))))), ?_⟩
  match st, hat, hB, q with
  | [], hat, _, _ => exact absurd hat (by unfold rowAt; intro z; cases z)
  | [i], hat, hB, q =>
    obtain ⟨k, rfl, e⟩ := rowAt_one hat
    have kl := (List.getElem?_eq_some_iff.mp e).1
    have b0 : atI (([((k : Nat) : Int)] : List Int).map V.int) 0 = some (.int (k : Nat)) := atI_nat (j := 0) rfl
    refine ⟨_, rfl, b, _, 0, _, rfl, rfl, hB, b0, _, rfl, ?_⟩
    refine ⟨_, rfl, .ref b, _, rfl, .inr ⟨_, hB, rfl⟩, _, _, rfl, rfl, _, rfl, if_false_of rfl ?_⟩
    refine ⟨_, rfl, ?_⟩
    dsimp only [tNoPart]
    refine ⟨_, rfl, (k : Nat), rfl, sl_all hS fun p1 H1 s1 h1 => ?_⟩
    rw [cut_to _ k (by omega)] at h1
    refine ⟨_, rfl, by show 1 ≤ sizeLine; decide, fun u hu => cat_all (SqT.same (Same.new hu _) h1) (SqT.of upd_same) (Nat.le_of_lt (small1000 (by rw [List.length_take]; show _ + 1 ≤ _; omega))) (fun c H2 s2 hc2 => ?_)⟩
    have s12 := s1.trans ((Same.new hu (.tup [x])).trans s2)
    refine ⟨_, rfl, _, rfl, _, _, rfl, rfl, ((k + 1 : Nat) : Int), rfl, ?_⟩
    dsimp only [tNoPart]
    refine sl_all (SqT.same s12 hS) fun p2 H3 s3 h3 => ?_
    rw [cut_fromN] at h3
    refine cat_all (SqT.same s3 hc2) h3 (Nat.le_of_lt (small1000 (by rw [List.length_append, List.length_take, List.length_drop]; show _ + 1 + _ ≤ _; omega))) (fun c2 H4 s4 hc4 => ?_)
    have s14 := (s12.trans s3).trans s4
    refine q (.ref c2) H4 s14 (.tup hc4 ?_)
    show TnAll K H4 _ (rowsD (rs.set ((k : Nat) : Int).toNat r))
    exact tn_put (TnAll.keep (TK.of_same s14) hT) kl (Tn.same s14 hX)
  | i :: j :: st2, hat, hB, q =>
    obtain ⟨k, sl, u, y, nn, rfl, e1, e2⟩ := rowAt_two hat
    have kl := (List.getElem?_eq_some_iff.mp e1).1
    have b0 : atI ((((k : Nat) : Int) :: j :: st2).map V.int) 0 = some (.int (k : Nat)) := atI_nat (j := 0) rfl
    have b1 : atI ((((k : Nat) : Int) :: j :: st2).map V.int) 1 = some (.int j) := atI_nat (j := 1) rfl
    refine ⟨_, rfl, b, _, 0, _, rfl, rfl, hB, b0, _, rfl, ?_⟩
    refine ⟨_, rfl, .ref b, _, rfl, .inr ⟨_, hB, rfl⟩, _, _, rfl, rfl, _, rfl, if_true_of (decide_eq_true (by rw [List.length_map, List.length_cons, List.length_cons]; omega)) ?_⟩
    obtain ⟨hx, hhx⟩ : ∃ z, xs[k]? = some z := ⟨_, List.getElem?_eq_getElem (by omega)⟩
    obtain ⟨d, hd1, hd2⟩ := TnAll.get hT hhx
    rw [rowsD_get e1] at hd1
    obtain rfl := Option.some.inj hd1
    obtain ⟨ra, vy, vn, rfl, hR, hyD, hnD⟩ := ite_tn hd2
    have okr := okRs_get ok e1
    unfold okR at okr
    have ecn := cnts_get e1
    have ec2 : Td.cnt (.ite sl u y nn) = 1 + cnts y + cnts nn := by unfold Td.cnt; rfl
    refine ⟨_, rfl, _, rfl, va, _, (k : Nat), .ref ra, rfl, rfl, hS, atI_nat hhx, ?_⟩
    refine ⟨_, rfl, b, _, 1, _, rfl, rfl, hB, b1, _, _, rfl, rfl, ?_⟩
    have est : setAt rs (((k : Nat) : Int) :: j :: st2) r = if j = 0 then rs.set k (.ite sl u (setAt y st2 r) nn) else rs.set k (.ite sl u y (setAt nn st2 r)) := by
      conv => lhs; rw [setAt]
      rw [getI_nat, e1]
      rfl
    obtain ⟨kk, vk, rk, r2, ekk, k5, hk, hDk, okk, hck, hatk, eset, hnew⟩ : ∃ (kk : Nat) (vk : V) (rk : List Td.Row) (r2 : List Td.Row → Td.Row), 3 + j = ((kk : Nat) : Int) ∧ kk + 1 ≤ 5 ∧ [V.str "if", .str sl, .str u, vy, vn][kk]? = some vk ∧ Tn K H vk (.tuple (rowsD rk)) ∧ okRs S (dep + 1) rk ∧ cnts rk ≤ 100 ∧ rowAt rk st2 = some r0 ∧
        setAt rs (((k : Nat) : Int) :: j :: st2) r = rs.set k (r2 (setAt rk st2 r)) ∧ ∀ (H' : Hp) (c : Addr) (v' : V) (ts : List Td.Row), Same H H' → Tn K H' v' (.tuple (rowsD ts)) → SqT K H' c ((([V.str "if", .str sl, .str u, vy, vn].take kk) ++ [v']) ++ [V.str "if", .str sl, .str u, vy, vn].drop (kk + 1)) → Tn K H' (.ref c) (rowD (r2 ts)) := by
      rcases e2 with ⟨rfl, e2⟩ | ⟨rfl, e2⟩
      · refine ⟨3, vy, y, fun ts => .ite sl u ts nn, rfl, by decide, rfl, hyD, okr.2.2.2.1, by omega, e2, by rw [est, if_pos rfl], fun H' c v' ts s' hv hc => ?_⟩
        unfold rowD
        exact .tup hc (.cons (.str _) (.cons (.str _) (.cons (.str _) (.cons hv (.cons (Tn.same s' hnD) .nil)))))
      · refine ⟨4, vn, nn, fun ts => .ite sl u y ts, rfl, by decide, rfl, hnD, okr.2.2.2.2, by omega, e2, by rw [est, if_neg (by decide)], fun H' c v' ts s' hv hc => ?_⟩
        unfold rowD
        exact .tup hc (.cons (.str _) (.cons (.str _) (.cons (.str _) (.cons (Tn.same s' hyD) (.cons hv .nil)))))
    show tSeq _ _ _ [some (.ref va), some (.ref b), some x, some (.int (k : Nat)), some x, some (.ref ra), some (.int (3 + j)), none] _
    rw [ekk]
    refine ⟨_, rfl, _, rfl, ra, _, _, vk, rfl, rfl, hR, atI_nat hk, _, rfl, 2, rfl, ?_⟩
    dsimp only [tNoPart]
    refine sl_all hB fun p0 H1 s1 h1 => ?_
    rw [show cutV ((((k : Nat) : Int) :: j :: st2).map V.int) (some (2 : Int)) none = ((((k : Nat) : Int) :: j :: st2).map V.int).drop 2 from cut_fromN _ 2] at h1
    refine ⟨_, rfl, vk, p0, x, rk, st2, r0, r, S, dep + 1, rfl, Tn.same s1 hDk, h1, Tn.same s1 hX, hatk, okk, hck, by omega, by omega, fun v' H2 s2 hv' => ?_⟩
    have s12 := s1.trans s2
    have hR2 := SqT.same s12 hR
    -- the holder
    refine ⟨_, rfl, ?_⟩
    dsimp only [tNoPart]
    refine ⟨_, rfl, (kk : Nat), rfl, sl_all hR2 fun p1 H3 s3 h3 => ?_⟩
    rw [cut_to _ kk (by show kk ≤ 5; omega)] at h3
    refine ⟨_, rfl, by show 1 ≤ sizeLine; decide, fun u1 hu1 => cat_all (SqT.same (Same.new hu1 _) h3) (SqT.of upd_same) (Nat.le_of_lt (small1000 (by rw [List.length_take]; show _ + 1 ≤ _; omega))) (fun c1 H4 s4 hc1 => ?_)⟩
    have s34 := s3.trans ((Same.new hu1 (.tup [v'])).trans s4)
    refine ⟨_, rfl, _, rfl, _, _, rfl, rfl, ((kk + 1 : Nat) : Int), rfl, ?_⟩
    dsimp only [tNoPart]
    refine sl_all (SqT.same s34 hR2) fun p2 H5 s5 h5 => ?_
    rw [cut_fromN] at h5
    refine cat_all (SqT.same s5 hc1) h5 (Nat.le_of_lt (small1000 (by rw [List.length_append, List.length_take, List.length_drop]; show _ + 1 + (5 - _) ≤ _; omega))) (fun c2 H6 s6 hc6 => ?_)
    have s26 := (s34.trans s5).trans s6
    have s06 := s12.trans s26
    have hrow := hnew H6 c2 v' (setAt rk st2 r) s06 (Tn.same s26 hv') hc6
    -- the rows
    have hS6 := SqT.same s06 hS
    refine ⟨_, rfl, ?_⟩
    dsimp only [tNoPart]
    refine ⟨_, rfl, (k : Nat), rfl, sl_all hS6 fun p3 H7 s7 h7 => ?_⟩
    rw [cut_to _ k (by omega)] at h7
    refine ⟨_, rfl, by show 1 ≤ sizeLine; decide, fun u2 hu2 => cat_all (SqT.same (Same.new hu2 _) h7) (SqT.of upd_same) (Nat.le_of_lt (small1000 (by rw [List.length_take]; show _ + 1 ≤ _; omega))) (fun c3 H8 s8 hc3 => ?_)⟩
    have s78 := s7.trans ((Same.new hu2 (.tup [V.ref c2])).trans s8)
    refine ⟨_, rfl, _, rfl, _, _, rfl, rfl, ((k + 1 : Nat) : Int), rfl, ?_⟩
    dsimp only [tNoPart]
    refine sl_all (SqT.same s78 hS6) fun p4 H9 s9 h9 => ?_
    rw [cut_fromN] at h9
    refine cat_all (SqT.same s9 hc3) h9 (Nat.le_of_lt (small1000 (by rw [List.length_append, List.length_take, List.length_drop]; show _ + 1 + _ ≤ _; omega))) (fun c4 HA sA hcA => ?_)
    have s6A := (s78.trans s9).trans sA
    refine q (.ref c4) HA (s06.trans s6A) (.tup hcA ?_)
    rw [eset]
    exact tn_put (TnAll.keep (TK.of_same (s06.trans s6A)) hT) kl (Tn.same s6A hrow)
theorem ok_with (T : Tops w K mg) : ∀ k, FnOk P w K mg base CX0 k T.a_rows_with T.d_rows_with ["rows", "steps", "row"] (spRowsWith K k)
  | 0 => by
    have no : ∀ vs H Q E, ¬ spRowsWith K 0 vs H Q E := fun vs H Q E h => by
      obtain ⟨_, _, _, _, _, _, _, _, dep, _, _, _, _, _, _, _, h1, h2, _⟩ := h
      omega
    exact ⟨fun vs H Q E h => absurd h (no vs H Q E), fun A outer s H args us vs Q E _ _ _ _ h => absurd h (no vs H Q E)⟩
  | k + 1 => ok_with1 T (ok_with T k)
def spSlotsIn (K : PySem.W.Frag) (n : Nat) : Sp := fun vs H Q _ => ∃ (v : V) (rs : List Td.Row) (S : Sc) (dep : Nat), vs = [v] ∧ Tn K H v (.tuple (rowsD rs)) ∧ okRs S dep rs ∧ cnts rs ≤ 100 ∧ dep ≤ 4 ∧ 5 ≤ dep + n ∧ ∀ (l : Addr) H', Same H H' → H l = none → H' l = some (.lst ((slotsRs rs).map V.str)) → Q (.ref l) H'
theorem slot_at (T : Tops w K mg) {H : Hp} {r : Td.Row} {v : V} (h : Dp K H v (rowD r)) : ∃ (a : Addr) (zs : List V) (pl : Int), v = .ref a ∧ SqT K H a zs ∧ zs[0]? = some (.str (rowTag r)) ∧ KDct K w T.a_SLOT_PLACES (rowTag r) (.int pl) ∧ atI zs pl = some (.str (slotR r)) := by
  cases r with
  | rd pk c s =>
    obtain ⟨a, rfl, hS⟩ := rd_at h
    cases pk with
    | false => exact ⟨a, _, 2, rfl, hS, rfl, T.w_SLOT_PLACES_read, rfl⟩
    | true => exact ⟨a, _, 2, rfl, hS, rfl, T.w_SLOT_PLACES_peek, rfl⟩
  | put s c =>
    obtain ⟨a, rfl, hS⟩ := put_at h
    exact ⟨a, _, 1, rfl, hS, rfl, T.w_SLOT_PLACES_put, rfl⟩
  | give s =>
    obtain ⟨a, rfl, hS⟩ := give_at h
    exact ⟨a, _, 1, rfl, hS, rfl, T.w_SLOT_PLACES_give, rfl⟩
  | say s =>
    obtain ⟨a, rfl, hS⟩ := say_at h
    exact ⟨a, _, 1, rfl, hS, rfl, T.w_SLOT_PLACES_say, rfl⟩
  | wr c s =>
    obtain ⟨a, rfl, hS⟩ := wr_at h
    exact ⟨a, _, 2, rfl, hS, rfl, T.w_SLOT_PLACES_write, rfl⟩
  | ite s u y n =>
    obtain ⟨a, vy, vn, rfl, hS, _, _⟩ := ite_at h
    exact ⟨a, _, 1, rfl, hS, rfl, T.w_SLOT_PLACES_if, rfl⟩
theorem slots_take {rs : List Td.Row} {i : Nat} {r : Td.Row} (h : rs[i]? = some r) : slotsRs (rs.take (i + 1)) = slotsRs (rs.take i) ++ slotsR r := by
  rw [take_more h, slotsRs_append]
  simp [slotsRs]
theorem slots_flat {r : Td.Row} (h : isIte r = false) : slotsR r = [slotR r] := by
  cases r with
  | ite => cases h
  | _ => simp [slotsR, slotR]
theorem ok_slots1 (T : Tops w K mg) {n : Nat} (G_slots_in : FnOk P w K mg base CX0 n T.a_slots_in T.d_slots_in ["rows"] (spSlotsIn K n)) :
    FnOk P w K mg base CX0 (n + 1) T.a_slots_in T.d_slots_in ["rows"] (spSlotsIn K (n + 1)) := by
  refine T.F_slots_in.ok sc_slots_in (fun vs H Q E h => ?_) (fun cdv A outer s H vs Q E hr h => ?_)
  · obtain ⟨v, rs, S, dep, rfl, _⟩ := h
    rfl
  obtain ⟨v, rs, S, dep, rfl, hD, ok, hc, hdep, hn, q⟩ := h
  obtain ⟨va, xs, rfl, hS, hT⟩ := Tn.tup_inv hD
  have xl : xs.length = rs.length := by rw [hT.length, rowsD_length]
  refine ⟨_, (pss_cons (ps_set (i := 1) sc_slots_in.nd rfl (Or.inl rfl) (pe_lst pa_nil))
    (pss_cons (ps_for PassesOwn.never rfl (pi_tup (pv 0)) (pg_name (i := 2) sc_slots_in.nd rfl (Or.inl rfl)) (pss_cons (ps_expr (pe_bm PySem.F.plainAttrs_list PySem.F.slot_list_append PySem.F.type_list_append mt_append (pv 1) (pa_cons (pe_ix ix_tup (pv 2) (pe_ix ix_kdict (pe_glob (v := .ref T.a_SLOT_PLACES) rfl T.c_SLOT_PLACES rfl) (pe_ix ix_tup (pv 2) pe_int (fun _ _ => rfl)) (fun _ _ => rfl)) (fun _ _ => rfl)) pa_nil)))
    (pss_one (ps_if (pt_cmpR op_eq (pe_ix ix_tup (pv 2) pe_int (fun _ _ => rfl)) pe_str (nomark _)) (pss_one (ps_expr (pe_bm PySem.F.plainAttrs_list PySem.F.slot_list_extend PySem.F.type_list_extend mt_extend (pv 1) (pa_cons (pe_call G_slots_in (hr.mono (by omega)) rfl T.m_slots_in T.F_slots_in.kp T.b_slots_in .nil pass0 (pa_cons (pe_op op_catA (pe_ix ix_tup (pv 2) pe_int (fun _ _ => rfl)) (pe_ix ix_tup (pv 2) pe_int (fun _ _ => rfl))) pa_nil)) pa_nil)))) pss_nil))))
    (pss_one (ps_ret (pv 1))))), ?_⟩
  refine ⟨by show 0 ≤ sizeLine; decide, fun l hl => ?_⟩
  have s1 := Same.new hl (.lst [])
  refine ⟨_, rfl, va, rfl, ⟨_, SqT.same s1 hS⟩, for_tup (K := K) (a := va) (xs := xs)
    (fun i σ H' => ∃ v2 : Option V, σ = [some (.ref va), some (.ref l), v2] ∧ Same H H' ∧ H' l = some (.lst ((slotsRs (rs.take i)).map V.str)))
    ⟨none, rfl, s1, by rw [List.take_zero]; simp only [slotsRs]; exact upd_same⟩ (fun i σ H' _ ⟨_, _, z, _⟩ => SqT.same z hS) ?_ ?_⟩
  · rintro i x σ H1 hx ⟨v2, rfl, h1, hl1⟩
    have il : i < rs.length := by rw [← xl]; exact (List.getElem?_eq_some_iff.mp hx).1
    obtain ⟨r, hr2⟩ : ∃ r, rs[i]? = some r := ⟨_, List.getElem?_eq_getElem il⟩
    obtain ⟨d, hd1, hd2⟩ := TnAll.get hT hx
    rw [rowsD_get hr2] at hd1
    obtain rfl := Option.some.inj hd1
    obtain ⟨ra, zs, pl, rfl, hR, hz0, hK, hz⟩ := slot_at T (Tn.dp (Tn.same h1 hd2))
    have hcr := cnts_get hr2
    have stk := slots_take hr2
    have sl1 : (slotsRs (rs.take i)).length + Td.cnt r ≤ 100 := by
      rw [slotsRs_len]
      have := cnts_take hr2
      have h2 : cnts (rs.take (i + 1)) ≤ cnts rs := by
        have e : rs = rs.take (i + 1) ++ rs.drop (i + 1) := (List.take_append_drop _ _).symm
        conv => rhs; rw [e]
        rw [cnts_append]
        omega
      omega
    have cp := cnt_pos r
    refine ⟨_, rfl, .inl ⟨rfl, _, SqL.of hl1⟩, ?_⟩
    refine ⟨_, rfl, _, rfl, ra, _, 0, _, rfl, rfl, hR, atI_nat (j := 0) hz0, _, _, _, rfl, rfl, hK, ra, _, pl, _, rfl, rfl, hR, hz, ?_⟩
    refine ⟨l, _, _, rfl, rfl, hl1, small1000 (by rw [List.length_map]; omega), ?_⟩
    have h12 : Same H (upd H1 l (.lst ((slotsRs (rs.take i)).map V.str ++ [.str (slotR r)]))) := own_same h1 hl
    have el : upd H1 l (.lst ((slotsRs (rs.take i)).map V.str ++ [V.str (slotR r)])) l = some (.lst ((slotsRs (rs.take i)).map V.str ++ [.str (slotR r)])) := upd_same
    have tk : TK H1 (upd H1 l (.lst ((slotsRs (rs.take i)).map V.str ++ [.str (slotR r)]))) := TK.upd (by rw [hl1]; trivial)
    have hR2 := SqT.tk tk hR
    generalize upd H1 l (.lst ((slotsRs (rs.take i)).map V.str ++ [V.str (slotR r)])) = H2 at h12 el tk hR2
    refine ⟨_, rfl, ra, _, 0, _, rfl, rfl, hR2, atI_nat (j := 0) hz0, rfl, _, rfl, ?_⟩
    rw [tag_if]
    cases hi : isIte r with
    | false =>
      refine if_false_of rfl ⟨_, rfl, h12, ?_⟩
      rw [stk, slots_flat hi, List.map_append]
      exact el
    | true =>
      refine if_true_of rfl ?_
      obtain ⟨sl, u, y, nn, rfl⟩ : ∃ s u y n', r = .ite s u y n' := by
        cases r with
        | ite s u y n => exact ⟨s, u, y, n, rfl⟩
        | _ => cases hi
      obtain ⟨ra', vy, vn, er, hR3, hyD, hnD⟩ := ite_tn (Tn.same h12 hd2)
      cases er
      obtain ⟨ya, ys, rfl, hY, hYT⟩ := Tn.tup_inv hyD
      obtain ⟨na, ns, rfl, hN, hNT⟩ := Tn.tup_inv hnD
      have okr := okRs_get ok hr2
      unfold okR at okr
      have ec2 : Td.cnt (.ite sl u y nn) = 1 + cnts y + cnts nn := by unfold Td.cnt; rfl
      have yl : ys.length = y.length := by rw [hYT.length, rowsD_length]
      have nl : ns.length = nn.length := by rw [hNT.length, rowsD_length]
      have ly := len_cnts y
      have ln := len_cnts nn
      refine ⟨_, rfl, .inl ⟨rfl, _, SqL.of el⟩, ?_⟩
      refine ⟨_, rfl, ra, _, 3, _, rfl, rfl, hR3, rfl, _, rfl, ra, _, 4, _, rfl, rfl, hR3, rfl, cat_all hY hN (Nat.le_of_lt (small1000 (by omega))) fun c H3 s3 hc3 => ?_⟩
      have hTT : Tn K H3 (.ref c) (.tuple (rowsD (y ++ nn))) := .tup hc3 (by rw [rowsD_append]; exact TnAll.append (TnAll.keep (TK.of_same s3) hYT) (TnAll.keep (TK.of_same s3) hNT))
      refine ⟨_, y ++ nn, S, dep + 1, rfl, hTT, okRs_append okr.2.2.2.1 okr.2.2.2.2, by rw [cnts_append]; omega, by omega, by omega, fun l2 H4 s4 f4 hl4 => ?_⟩
      have el4 := s4 _ _ (s3 _ _ el)
      refine ⟨l, l2, _, _, rfl, rfl, el4, hl4, Nat.le_of_lt (small1000 (by rw [List.length_append, List.length_map, List.length_map, slotsRs_append, List.length_append, slotsRs_len y, slotsRs_len nn]; show _ + 1 + _ ≤ _; omega)), ?_⟩
      refine ⟨_, rfl, own_same ((h12.trans s3).trans s4) hl, ?_⟩
      rw [upd_same, stk]
      have e : slotsR (.ite sl u y nn) = sl :: (slotsRs y ++ slotsRs nn) := by simp only [slotsR]
      rw [e, List.map_append, slotsRs_append, List.append_assoc]
      rfl
  · rintro σ H1 ⟨v2, rfl, h1, hl1⟩
    rw [xl, List.take_length] at hl1
    exact ⟨_, rfl, q l H1 h1 hl hl1⟩
theorem ok_slots (T : Tops w K mg) : ∀ k, FnOk P w K mg base CX0 k T.a_slots_in T.d_slots_in ["rows"] (spSlotsIn K k)
  | 0 => by
    have no : ∀ vs H Q E, ¬ spSlotsIn K 0 vs H Q E := fun vs H Q E h => by
      obtain ⟨_, _, _, dep, _, _, _, _, h1, h2, _⟩ := h
      omega
    exact ⟨fun vs H Q E h => absurd h (no vs H Q E), fun A outer s H args us vs Q E _ _ _ _ h => absurd h (no vs H Q E)⟩
  | k + 1 => ok_slots1 T (ok_slots T k)
end
end K77
namespace K77
open PySem PySem.Spec PyProof.Rows L2 Td
def ownD (c : Bool × List Int) : PyData := .tuple [.str (chS c.1), .tuple (c.2.map PyData.int)]
theorem own_tn {K : PySem.W.Frag} {H : Hp} {v : V} {c : Bool × List Int} (h : Tn K H v (ownD c)) : ∃ t b, v = .ref t ∧ SqT K H t [.str (chS c.1), .ref b] ∧ SqT K H b (c.2.map V.int) := by
  obtain ⟨t, xs, rfl, hT, hX⟩ := Tn.tup_inv h
  cases hX with | cons a1 r => cases a1; cases r with | cons a2 r =>
    cases r
    obtain ⟨b, ys, rfl, hB, hY⟩ := Tn.tup_inv a2
    rw [ints_inv hY] at hB
    exact ⟨t, b, rfl, hT, hB⟩
def spChRows (K : PySem.W.Frag) : Sp := fun vs H Q _ => ∃ (v : V) (l : Addr) (cs : List V) (rs : List Td.Row) (own : List (Bool × List Int)) (S : Sc), vs = [v, .ref l] ∧ Tn K H v (.tuple (rowsD rs)) ∧ H l = some (.lst cs) ∧ TnAll K H cs (own.map ownD) ∧ okRs S 1 rs ∧ cnts rs ≤ 24 ∧ own.length ≤ 20 ∧ OwnOk rs own ∧ (S.eff = true ∨ ∀ c ∈ own, c.1 = false) ∧
  ∀ (x : V) H', Same H H' → Tn K H' x (.tuple (rowsD (chRows rs own))) → Q x H'
theorem early_snoc {rs : List Td.Row} {own : List (Bool × List Int)} {j : Nat} {c : Bool × List Int} (h : own[j]? = some c) : earlyCs rs (own.take (j + 1)) = if c.1 then earlyCs rs (own.take j) else earlyCs rs (own.take j) ++ [cellOf (rowAt rs c.2)] := by
  unfold earlyCs
  rw [take_more h, List.filter_append, List.map_append]
  cases hc : c.1 <;> simp [hc]
theorem behind_snoc {rs : List Td.Row} {own : List (Bool × List Int)} {j : Nat} {c : Bool × List Int} (h : own[j]? = some c) : behindRs rs (own.take (j + 1)) = behindF rs (behindRs rs (own.take j)) c := by
  unfold behindRs
  rw [take_more h, List.foldl_append]
  rfl
theorem earlyRs_snoc (F : Str) (cs : List Str) (c : Str) : earlyRs F (cs ++ [c]) = earlyRs F cs ++ [.rd false c F] := by unfold earlyRs; rw [List.map_append]; rfl
section
variable {P : Program} {w : World} {K : PySem.W.Frag} {mg : Str → Option Value} {base : Heap}
theorem ok_ch_rows (T : Tops w K mg) (G_slots_in : FnOk P w K mg base CX0 4 T.a_slots_in T.d_slots_in ["rows"] (spSlotsIn K 4))
    (G_row_behind : FnOk P w K mg base CX0 4 T.a_row_behind T.d_row_behind ["rows", "steps"] (spBehindR K 4))
    (G_rows_with : FnOk P w K mg base CX0 4 T.a_rows_with T.d_rows_with ["rows", "steps", "row"] (spRowsWith K 4)) :
    FnOk P w K mg base CX0 5 T.a_changed_rows T.d_changed_rows ["rows", "changes"] (spChRows K) := by
  refine T.F_changed_rows.ok sc_changed_rows (fun vs H Q E h => ?_) (fun cdv A outer s H vs Q E hr h => ?_)
  · obtain ⟨v, l, cs, rs, own, S, rfl, _⟩ := h
    rfl
  obtain ⟨v, l, cs, rs, own, S, rfl, hD, hl, hC, ok, hc, ho, hown, heff, q⟩ := h
  have cl : cs.length = own.length := by have := hC.length; rwa [List.length_map] at this
  refine ⟨_, (pss_cons (ps_set (i := 2) sc_changed_rows.nd rfl (Or.inr rfl) (pe_call G_slots_in (hr.mono (by omega)) rfl T.m_slots_in T.F_slots_in.kp T.b_slots_in .nil pass0 (pa_cons (pv 0) pa_nil)))
    (pss_cons (ps_set (i := 3) sc_changed_rows.nd rfl (Or.inl rfl) (pe_ix ix_list (pe_lc (own := [(("letter" : Str), 11)]) (wi := (iStr (tC (.str "abcdefghijklmnopqrstuvwxyz")))) (g := gName 11) (tt := (tTest (tOp (rIn K true) (tVar 11) (tVar 2)))) (te := (tVar 11)) rfl sc_changed_rows.nd (pi_str (pe_glob (v := .str "abcdefghijklmnopqrstuvwxyz") rfl T.c_LETTERS ⟨_, rfl⟩)) (blkOk_by (own := [(("letter" : Str), 11)]) (N := N_changed_rows) (sc := defScope s_changed_rows) (by decide +kernel)) (fun _ _ _ _ _ => (pg_name (i := 11) sc_changed_rows.nd rfl (Or.inl rfl))) (fun _ _ _ _ _ => (pts_one (pt_cmpR op_notIn_seq (pv 11) (pv 2) (by rfl)))) (fun _ _ _ _ _ => (pv 11))) pe_int (fun _ _ => rfl)))
    (pss_cons (ps_set (i := 4) sc_changed_rows.nd rfl (Or.inl rfl) (pe_tup pa_nil))
    (pss_cons (ps_set (i := 5) sc_changed_rows.nd rfl (Or.inl rfl) (pv 0))
    (pss_cons (ps_for PassesOwn.never rfl (pi_list (pv 1)) (pg_tup rfl (pgs_cons (pg_name (i := 6) sc_changed_rows.nd rfl (Or.inl rfl)) (pgs_cons (pg_name (i := 7) sc_changed_rows.nd rfl (Or.inl rfl)) pgs_nil))) (pss_cons (ps_asg (pe_call G_row_behind (hr.mono (by omega)) rfl T.m_row_behind T.F_row_behind.kp T.b_row_behind .nil pass0 (pa_cons (pv 0) (pa_cons (pv 7) pa_nil))) (pg_tup rfl (pgs_cons (pg_name (i := 8) sc_changed_rows.nd rfl (Or.inl rfl)) (pgs_cons (pg_name (i := 9) sc_changed_rows.nd rfl (Or.inl rfl)) (pgs_cons (pg_name (i := 10) sc_changed_rows.nd rfl (Or.inl rfl)) pgs_nil)))))
    (pss_one (ps_if (pt_cmpR op_eq (pv 6) pe_str (nomark _)) (pss_one (ps_set (i := 4) sc_changed_rows.nd rfl (Or.inl rfl) (pe_op op_catA (pv 4) (pe_tup (pa_cons (pe_tup (pa_cons pe_str (pa_cons (pv 9) (pa_cons (pv 3) pa_nil)))) pa_nil))))) (pss_one (ps_set (i := 5) sc_changed_rows.nd rfl (Or.inl rfl) (pe_call G_rows_with (hr.mono (by omega)) rfl T.m_rows_with T.F_rows_with.kp T.b_rows_with .nil pass0 (pa_cons (pv 5) (pa_cons (pv 7) (pa_cons (pe_tup (pa_cons pe_str (pa_cons (pv 9) (pa_cons (pv 10) pa_nil)))) pa_nil))))))))))
    (pss_one (ps_ret (pe_op op_catA (pv 4) (pv 5))))))))), ?_⟩
  refine ⟨_, rfl, v, rs, S, 1, rfl, hD, ok, by omega, by decide, by decide, fun l1 H1 s1 n1 hl1 => ?_⟩
  refine ⟨ab26, rfl, fun D hD0 => lc_str (z := ab26) (fun i H' => Same H1 H' ∧ H' D = some (.lst ((freshG (slotsRs rs) i).map V.str))) ⟨Same.new hD0 _, upd_same⟩ ?_ ?_⟩
  · rintro i c H' hc ⟨hs, hb⟩
    have i26 : i < 26 := (Array.getElem?_eq_some_iff.mp hc).1
    have ec : c = 97 + i := by
      have := ab_at i i26
      rw [Array.getElem?_toList, hc] at this
      exact Option.some.inj this
    subst ec
    refine ⟨rfl, ?_⟩
    refine ⟨_, rfl, _, rfl, l1, _, rfl, .inl (SqL.of (hs _ _ hl1)), rfl, L2.flat_strs _, _, rfl, ?_⟩
    have fl := freshG_len (slotsRs rs) i
    by_cases hz : letA i ∈ slotsRs rs
    · refine if_false_of (by show (!inV (.str (letA i)) ((slotsRs rs).map V.str)) = false; rw [inV_strs, decide_eq_true hz]; rfl) ⟨hs, ?_⟩
      rw [freshG_more, if_pos hz]
      exact hb
    · refine if_true_of (by show (!inV (.str (letA i)) ((slotsRs rs).map V.str)) = true; rw [inV_strs, decide_eq_false hz]; rfl) ?_
      refine ⟨_, rfl, _, hb, small1000 (by rw [List.length_map]; omega), own_same hs hD0, ?_⟩
      rw [upd_same, freshG_more, if_neg hz, List.map_append]
      rfl
  rintro H2 ⟨s2, hb⟩
  obtain ⟨k0, k26, kn, ehd, r0, ef⟩ := free_some (ns := slotsRs rs) (by rw [slotsRs_len]; omega)
  have eF : freeOf rs = letA k0 := ehd
  have hb' : H2 D = some (.lst ((letA k0 :: r0).map V.str)) := by rw [← ef]; exact hb
  have s02 := s1.trans s2
  refine ⟨D, _, 0, _, rfl, rfl, SqL.of hb', (show atI ((letA k0 :: r0).map V.str) 0 = some (V.str (letA k0)) from atI_nat (j := 0) rfl), ?_⟩
  rw [← eF]
  refine ⟨by show 0 ≤ sizeLine; decide, fun t0 ht0 => ?_⟩
  have s3 := Same.new ht0 (.tup [])
  have e3 : upd H2 t0 (.tup []) t0 = some (.tup []) := upd_same
  have s03 := s02.trans s3
  try dsimp only
  generalize upd H2 t0 (.tup []) = H3 at s3 e3 s03
  refine ⟨_, rfl, ?_⟩
  have erl : rs.length ≤ cnts rs := len_cnts rs
  have pk : ∀ j, pkRs rs (behindRs rs (own.take j)) := fun j => behind_pk _ _ (fun c h => hown c (List.take_subset _ _ h)) (pkRs_refl rs)
  refine ⟨_, rfl, l, rfl, ⟨_, SqL.of (s03 _ _ hl)⟩, for_list (K := K) (a := l) (xs := cs)
    (fun j σ H' => ∃ (ea : Addr) (es : List V) (bv : V) (v6 v7 v8 v9 v10 : Option V), σ = [some v, some (.ref l), some (.ref l1), some (.str (freeOf rs)), some (.ref ea), some bv, v6, v7, v8, v9, v10, none] ∧ Same H H' ∧ SqT K H' ea es ∧ TnAll K H' es (rowsD (earlyRs (freeOf rs) (earlyCs rs (own.take j)))) ∧ Tn K H' bv (.tuple (rowsD (behindRs rs (own.take j)))))
    ⟨t0, [], v, none, none, none, none, none, rfl, s03, SqT.of e3, by rw [List.take_zero]; simp only [earlyCs, List.filter_nil, List.map_nil, earlyRs, rowsD]; exact .nil, by rw [List.take_zero]; exact Tn.same s03 hD⟩ (fun j σ H' _ ⟨_, _, _, _, _, _, _, _, _, z, _⟩ => SqL.of (z _ _ hl)) ?_ ?_⟩
  · rintro j x σ H4 hx ⟨ea, es, bv, v6, v7, v8, v9, v10, rfl, s4, hE, hET, hBv⟩
    have jl : j < own.length := by rw [← cl]; exact (List.getElem?_eq_some_iff.mp hx).1
    obtain ⟨c, hc2⟩ : ∃ c, own[j]? = some c := ⟨_, List.getElem?_eq_getElem jl⟩
    obtain ⟨d, hd1, hd2⟩ := TnAll.get hC hx
    rw [List.getElem?_map, hc2] at hd1
    obtain rfl := Option.some.inj hd1
    obtain ⟨t, b, rfl, hT, hB⟩ := own_tn hd2
    obtain ⟨xc, xs', hrow⟩ := hown c (List.mem_of_getElem? hc2)
    have el : es.length ≤ 20 := by
      rw [hET.length, rowsD_length]
      unfold earlyRs earlyCs
      rw [List.length_map, List.length_map]
      exact Nat.le_trans (List.length_filter_le ..) (by rw [List.length_take]; omega)
    refine ⟨t, _, rfl, SqT.same s4 hT, rfl, _, _, rfl, _, _, rfl, rfl, ?_⟩
    refine ⟨_, rfl, _, rfl, v, b, rs, c.2, S, 1, rfl, Tn.same s4 hD, SqT.same s4 hB, ok, by omega, by omega, by decide, by decide, fun H' s' z => ?_, fun rv r H5 s5 z hrv => ?_⟩
    · rw [hrow] at z; cases z
    rw [hrow] at z
    cases z
    obtain ⟨ra, rfl, hR'⟩ := rd_tn hrv
    have hR : SqT K H5 ra [.str "read", .str xc, .str xs'] := hR'
    have s45 := s4.trans s5
    refine ⟨ra, _, rfl, hR, rfl, _, _, rfl, _, _, rfl, _, _, rfl, rfl, ?_⟩
    have esn := early_snoc (rs := rs) hc2
    have bsn := behind_snoc (rs := rs) hc2
    cases ec : c.1 with
    | false =>
      refine ⟨_, rfl, rfl, _, rfl, if_true_of (by decide +kernel) ?_⟩
      rw [ec, if_neg Bool.false_ne_true, hrow] at esn
      have bsn' : behindRs rs (own.take (j + 1)) = behindRs rs (own.take j) := by rw [bsn]; unfold behindF; rw [ec, if_neg Bool.false_ne_true]
      refine ⟨_, rfl, _, rfl, _, rfl, by show 3 ≤ sizeLine; decide, fun u1 hu1 => ⟨by show 1 ≤ sizeLine; decide, fun u2 hu2 => ?_⟩⟩
      have z1 := Same.new hu1 (.tup [V.str "read", .str xc, .str (freeOf rs)])
      have z2 := Same.new hu2 (.tup [V.ref u1])
      refine cat_all (SqT.same ((s5.trans z1).trans z2) hE) (SqT.of upd_same) (Nat.le_of_lt (small1000 (by show _ + 1 ≤ _; omega))) (fun c2 H8 s8 hc8 => ?_)
      have s58 := ((s5.trans z1).trans z2).trans s8
      have hu1' := s8 _ _ (z2 _ _ (upd_same (H := H5) (a := u1) (o := .tup [V.str "read", .str xc, .str (freeOf rs)])))
      refine ⟨c2, _, bv, _, _, _, _, _, rfl, s4.trans s58, hc8, ?_, ?_⟩
      · rw [esn, earlyRs_snoc, rowsD_append]
        refine TnAll.append (TnAll.keep (TK.of_same s58) hET) ?_
        show TnAll K H8 [V.ref u1] (rowsD [.rd false xc (freeOf rs)])
        unfold rowsD rowD rowsD
        exact .cons (.tup (SqT.of hu1') (.cons (.str _) (.cons (.str _) (.cons (.str _) .nil)))) .nil
      · rw [bsn']; exact Tn.same s58 hBv
    | true =>
      refine ⟨_, rfl, rfl, _, rfl, if_false_of (by decide +kernel) ?_⟩
      rw [ec, if_pos rfl] at esn
      have he : S.eff = true := heff.elim id fun h => by have := h c (List.mem_of_getElem? hc2); rw [ec] at this; cases this
      have bsn' : behindRs rs (own.take (j + 1)) = setAt (behindRs rs (own.take j)) c.2 (.rd true xc xs') := by rw [bsn]; unfold behindF; rw [ec, if_pos rfl, hrow]; rfl
      obtain ⟨r0, hr0, _⟩ := pkRs_at c.2 (pk j) hrow
      refine ⟨_, rfl, _, rfl, _, rfl, _, rfl, by show 3 ≤ sizeLine; decide, fun u1 hu1 => ?_⟩
      have z1 := Same.new hu1 (.tup [V.str "peek", .str xc, .str xs'])
      have hX : Tn K (upd H5 u1 (.tup [V.str "peek", .str xc, .str xs'])) (.ref u1) (rowD (.rd true xc xs')) := by
        unfold rowD
        exact .tup (SqT.of upd_same) (.cons (.str _) (.cons (.str _) (.cons (.str _) .nil)))
      refine ⟨bv, b, .ref u1, behindRs rs (own.take j), c.2, r0, .rd true xc xs', S, 1, rfl, Tn.same (s5.trans z1) hBv, SqT.same (s45.trans z1) hB, hX, hr0, pk_okEs he (pk j) ok, by rw [pk_cnts (pk j)]; omega, by decide, by decide, fun v' H8 s8 hv' => ?_⟩
      have s58 := (s5.trans z1).trans s8
      refine ⟨ea, es, v', _, _, _, _, _, rfl, s4.trans s58, SqT.same s58 hE, ?_, ?_⟩
      · rw [esn]; exact TnAll.keep (TK.of_same s58) hET
      · rw [bsn']; exact hv'
  · rintro σ H4 ⟨ea, es, bv, v6, v7, v8, v9, v10, rfl, s4, hE, hET, hBv⟩
    rw [cl, List.take_length] at hET hBv
    obtain ⟨ba, bs, rfl, hBa, hBT⟩ := Tn.tup_inv hBv
    have el : es.length ≤ 20 := by
      rw [hET.length, rowsD_length]
      unfold earlyRs earlyCs
      rw [List.length_map, List.length_map]
      exact Nat.le_trans (List.length_filter_le ..) ho
    have bl : bs.length ≤ 24 := by
      have h1 := pkRs_len (pk own.length)
      rw [List.take_length] at h1
      rw [hBT.length, rowsD_length, h1]
      omega
    refine ⟨_, rfl, _, rfl, cat_all hE hBa (Nat.le_of_lt (small1000 (by omega))) fun c H5 s5 hc5 => ?_⟩
    refine q _ H5 (s4.trans s5) (.tup hc5 ?_)
    unfold chRows
    rw [rowsD_append]
    exact TnAll.append (TnAll.keep (TK.of_same s5) hET) (TnAll.keep (TK.of_same s5) hBT)
end
end K77
namespace K77
open PySem PySem.Spec PyProof.Rows L2 Td
theorem chg_tn {K : PySem.W.Frag} {H : Hp} {v : V} {c : Bool × Way} (h : Tn K H v (chgD c)) : ∃ t b, v = .ref t ∧ SqT K H t [.str (chS c.1), .ref b] ∧ SqT K H b c.2.vs := by
  obtain ⟨t, xs, rfl, hT, hX⟩ := Tn.tup_inv h
  cases hX with | cons a1 r => cases a1; cases r with | cons a2 r =>
    cases r
    obtain ⟨b, rfl, hB⟩ := Way.inv a2
    exact ⟨t, b, rfl, hT, hB⟩
theorem kdW_inj {a b : Bool} (h : kdW a = kdW b) : a = b := by
  cases a <;> cases b <;> first | rfl | (exact absurd h (by decide +kernel))
theorem head_eq (c : Way) (e : Bool) (i : Nat) : PyData.eqv (.tuple [.str (kdW c.e), .int (c.i : Nat)]) (.tuple [.str (kdW e), .int (i : Nat)]) = (decide (c.e = e) && decide (c.i = i)) := by
  rw [Bool.eq_iff_iff]
  simp only [PyData.eqv, PyData.eqvAll, Bool.and_true, Bool.and_eq_true, beq_iff_eq, decide_eq_true_eq]
  exact ⟨fun h => ⟨kdW_inj h.1, Int.ofNat_inj.mp h.2⟩, fun h => ⟨by rw [h.1], by rw [h.2]⟩⟩
theorem head_shaped (c : Bool) (i : Nat) : SeqAt.shaped (.tuple [.str (kdW c), .int (i : Nat)]) = true := by
  have h : (PyData.str (kdW c)).canLay0 = true := by cases c <;> decide +kernel
  have h2 : (PyData.tuple [.str (kdW c), .int (i : Nat)]).canLay0 = true := by
    show ((PyData.str (kdW c)).canLay0 && _) = true
    rw [h]
    rfl
  unfold SeqAt.shaped
  rw [h2, Bool.true_and]
  exact decide_eq_true (by simp [PyData.depth, PyData.depthAll])
theorem rwsTn {α : Type} {K : PySem.W.Frag} {H : Hp} {D : α → PyData} : ∀ (L : List α) (zs : List V), Rws (fun H v (x : α) => Tn K H v (D x)) H zs L → TnAll K H zs (L.map D)
  | [], zs, h => by
    have e := h.len
    rw [List.eq_nil_of_length_eq_zero e]
    exact .nil
  | x :: L, zs, h => by
    cases zs with
    | nil => have e := h.len; simp at e
    | cons y zs =>
      obtain ⟨v, hv, hx⟩ := h.get 0 x rfl
      cases (show some y = some v from hv)
      exact .cons hx (rwsTn L zs ⟨by have e := h.len; simpa using e, fun i z e => h.get (i + 1) z (by simpa using e)⟩)
structure BodOk (L : List (Bool × Way)) (e : Bool) (i : Nat) (q : Str × List Td.Row) (S : Sc) : Prop where
  ok : okRs S 1 q.2
  c : cnts q.2 ≤ 24
  own : OwnOk q.2 (ownC L e i)
  eff : S.eff = true ∨ ∀ c ∈ ownC L e i, c.1 = false
def spChBod (K : PySem.W.Frag) : Sp := fun vs H Q _ => ∃ (v : V) (l : Addr) (cs : List V) (e : Bool) (L : List (Bool × Way)) (ps : List (Str × List Td.Row)), vs = [.str (kdW e), v, .ref l] ∧ Tn K H v (pairsD ps) ∧ H l = some (.lst cs) ∧ TnAll K H cs (L.map chgD) ∧ L.length ≤ 20 ∧ ps.length ≤ 10 ∧ (∀ (i : Nat) (q : Str × List Td.Row), ps[i]? = some q → ∃ S, BodOk L e i q S) ∧
  ∀ (x : V) H', Same H H' → Tn K H' x (pairsD (chBodies L e ps)) → Q x H'
theorem chB_at {L : List (Bool × Way)} {e : Bool} {ps : List (Str × List Td.Row)} {i : Nat} {q : Str × List Td.Row} (h : ps[i]? = some q) : (chBodies L e ps)[i]? = some (q.1, chRows q.2 (ownC L e i)) := by
  unfold chBodies
  rw [List.getElem?_mapIdx, h]
  rfl
section
variable {P : Program} {w : World} {K : PySem.W.Frag} {mg : Str → Option Value} {base : Heap}
theorem ok_ch_bodies (T : Tops w K mg) (G_changed_rows : FnOk P w K mg base CX0 5 T.a_changed_rows T.d_changed_rows ["rows", "changes"] (spChRows K)) :
    FnOk P w K mg base CX0 6 T.a_changed_bodies T.d_changed_bodies ["kind", "pairs", "changes"] (spChBod K) := by
  refine T.F_changed_bodies.ok sc_changed_bodies (fun vs H Q E h => ?_) (fun cdv A outer s H vs Q E hr h => ?_)
  · obtain ⟨v, l, cs, e, L, ps, rfl, _⟩ := h
    rfl
  obtain ⟨v, l, cs, e, L, ps, rfl, hD, hl, hC, hL, hps, hbod, q⟩ := h
  have cl : cs.length = L.length := by have := hC.length; rwa [List.length_map] at this
  obtain ⟨va, xs, rfl, hS, hT⟩ := Tn.tup_inv hD
  have xl : xs.length = ps.length := by have := hT.length; rwa [List.length_map] at this
  have cbl : (chBodies L e ps).length = ps.length := by unfold chBodies; rw [List.length_mapIdx]
  refine ⟨_, (pss_cons (ps_set (i := 3) sc_changed_bodies.nd rfl (Or.inl rfl) (pe_lst pa_nil))
    (pss_cons (ps_for PassesOwn.never rfl (pi_enumT rfl T.z_enumerate (pa_cons (pv 1) pa_nil)) (pg_tup rfl (pgs_cons (pg_name (i := 4) sc_changed_bodies.nd rfl (Or.inr rfl)) (pgs_cons (pg_tup rfl (pgs_cons (pg_name (i := 5) sc_changed_bodies.nd rfl (Or.inl rfl)) (pgs_cons (pg_name (i := 6) sc_changed_bodies.nd rfl (Or.inl rfl)) pgs_nil))) pgs_nil))) (pss_cons (ps_setLc (i := 7) (own := [(("word" : Str), 8), (("path" : Str), 9)]) (wi := (iList K (tVar 2))) (g := gTup K 2 (gCons (gName 8) (gCons (gName 9) gNil))) (tt := (tTest (tOp (rEqD K) (tSl (rSlA K) (tVar 9) tNoPart (tPart (tC (.int 2)))) (tTup (tCons (tVar 0) (tCons (tVar 4) tNil)))))) (te := (tTup (tCons (tVar 8) (tCons (tSl (rSlA K) (tVar 9) (tPart (tC (.int 2))) tNoPart) tNil)))) rfl sc_changed_bodies.nd rfl rfl (sw_true rfl rfl rfl (by decide +kernel)) (pi_list (pv 2)) (blkOk_by (own := [(("word" : Str), 8), (("path" : Str), 9)]) (N := N_changed_bodies) (sc := defScope s_changed_bodies) (by decide +kernel)) (fun _ _ _ _ _ => (pg_tup rfl (pgs_cons (pg_name (i := 8) sc_changed_bodies.nd rfl (Or.inl rfl)) (pgs_cons (pg_name (i := 9) sc_changed_bodies.nd rfl (Or.inl rfl)) pgs_nil)))) (fun _ _ _ _ _ => (pts_one (pt_cmpR (op_eqD hr.units) (pe_slice sl_tupA (pv 9) po_none (po_some pe_int)) (pe_tup (pa_cons (pv 0) (pa_cons (pv 4) pa_nil))) (nomark _)))) (fun _ _ _ _ _ => (pe_tup (pa_cons (pv 8) (pa_cons (pe_slice sl_tupA (pv 9) (po_some pe_int) po_none) pa_nil)))))
    (pss_one (ps_expr (pe_bm PySem.F.plainAttrs_list PySem.F.slot_list_append PySem.F.type_list_append mt_append (pv 3) (pa_cons (pe_tup (pa_cons (pv 5) (pa_cons (pe_call G_changed_rows (hr.mono (by omega)) rfl T.m_changed_rows T.F_changed_rows.kp T.b_changed_rows .nil pass0 (pa_cons (pv 6) (pa_cons (pv 7) pa_nil))) pa_nil))) pa_nil))))))
    (pss_one (ps_ret (pe_callTy (T := "tuple") call_tuple_of rfl T.z_tuple (by decide +kernel) (pa_cons (pv 3) pa_nil)))))), ?_⟩
  refine ⟨by show 0 ≤ sizeLine; decide, fun bl hbl => ?_⟩
  have s1 := Same.new hbl (.lst [])
  refine ⟨_, rfl, va, _, rfl, SqT.same s1 hS, for_enumT (K := K) (a := va) (xs := xs) (fun i σ H' => ∃ (v4 v5 v6 v7 : Option V) (zs : List V), σ = [some (.str (kdW e)), some (.ref va), some (.ref l), some (.ref bl), v4, v5, v6, v7, none, none] ∧ Same H H' ∧ H' bl = some (.lst zs) ∧ TnAll K H' zs (((chBodies L e ps).take i).map Td.pairD))
    ⟨none, none, none, none, [], rfl, s1, upd_same, by rw [List.take_zero]; exact .nil⟩ (fun i σ H' _ ⟨_, _, _, _, _, _, z, _⟩ => SqT.same z hS) ?_ ?_⟩
  · rintro i x σ H1 t hx ⟨v4, v5, v6, v7, zs, rfl, h1, hz, hzT⟩ ht
    have il : i < ps.length := by rw [← xl]; exact (List.getElem?_eq_some_iff.mp hx).1
    obtain ⟨r, b, vr, hr2, rfl, hB, hvr⟩ := pair_get hT hx
    obtain ⟨S, bo⟩ := hbod i r hr2
    have s2 := Same.new ht (.tup [.int (i : Nat), .ref b])
    have h12 := h1.trans s2
    have hz2 := s2 _ _ hz
    have hzT2 := TnAll.keep (TK.of_same s2) hzT
    have ht2 : upd H1 t (.tup [.int (i : Nat), .ref b]) t = some (.tup [.int (i : Nat), .ref b]) := upd_same
    refine ⟨t, _, rfl, SqT.of ht2, rfl, _, _, rfl, _, _, rfl, ?_⟩
    refine ⟨b, _, rfl, SqT.same h12 hB, rfl, _, _, rfl, _, _, rfl, rfl, rfl, ?_⟩
    generalize upd H1 t (.tup [.int (i : Nat), V.ref b]) = H2 at h12 hz2 hzT2
    have hl2 := h12 _ _ hl
    refine ⟨_, rfl, l, rfl, ⟨_, SqL.of hl2⟩, fun D hD2 => buS_list (cs.zip L) Prod.fst (fun c => decide (c.2.2.e = e) && decide (c.2.2.i = i)) (fun H v c => Tn K H v (ownD (c.2.1, c.2.2.st))) (fun k h => Tn.keep k h) (SqL.of hl2) (zip_fstB cl) (by rw [List.length_zip]; omega) hD2 ?_ ?_⟩
    · rintro j c H' hc hs Yes No yes no
      obtain ⟨q1, q2⟩ := zip_atB hc
      obtain ⟨d, hd1, hd2⟩ := TnAll.get hC q1
      rw [List.getElem?_map, q2] at hd1
      obtain rfl := Option.some.inj hd1
      obtain ⟨tc, wb, e1, hTc, hWb⟩ := chg_tn hd2
      have s02 := h12.trans hs
      show gTup _ _ _ c.1 _ _ _
      rw [e1]
      refine ⟨tc, _, rfl, SqT.same s02 hTc, rfl, _, _, rfl, _, _, rfl, rfl, rfl, ?_⟩
      have hWb2 := SqT.same s02 hWb
      refine ⟨_, rfl, ?_⟩
      dsimp only [tNoPart]
      refine ⟨2, rfl, sl_all hWb2 fun p1 H3 s3 h3 => ?_⟩
      rw [show cutV c.2.2.vs none (some (2 : Int)) = c.2.2.vs.take 2 from cut_to _ 2 (by unfold Way.vs; simp)] at h3
      refine ⟨_, rfl, _, rfl, by show 2 ≤ sizeLine; decide, fun t3 ht3 => ?_⟩
      have z3 := Same.new ht3 (.tup [V.str (kdW e), .int (i : Nat)])
      refine ⟨.tuple [.str (kdW c.2.2.e), .int (c.2.2.i : Nat)], .tuple [.str (kdW e), .int (i : Nat)], .tup (SqT.same z3 h3) (.cons (.str _) (.cons (.int _) .nil)), .tup (SqT.of upd_same) (.cons (.str _) (.cons (.int _) .nil)), head_shaped _ _, head_shaped _ _, _, rfl, ?_⟩
      rw [head_eq]
      refine if_known (fun h => ?_) (fun h => ?_)
      · refine ⟨_, rfl, _, rfl, 2, rfl, ?_⟩
        dsimp only [tNoPart]
        refine sl_all (SqT.same (s3.trans z3) hWb2) fun p2 H4 s4 h4 => ?_
        rw [show cutV c.2.2.vs (some (2 : Int)) none = c.2.2.vs.drop 2 from cut_fromN _ 2] at h4
        refine ⟨by show 2 ≤ sizeLine; decide, fun t5 ht5 => ?_⟩
        have z5 := Same.new ht5 (.tup [V.str (chS c.2.1), .ref p2])
        exact yes h _ _ ((s3.trans z3).trans (s4.trans z5)) (.tup (SqT.of upd_same) (.cons (.str _) (.cons (.tup (SqT.same z5 h4) (ints_tn _)) .nil)))
      · exact no h _ (s3.trans z3)
    rintro H3 ys s3 hD3 hY
    have hY' := rwsTn _ _ hY
    have eo : (((cs.zip L).filter fun c => decide (c.2.2.e = e) && decide (c.2.2.i = i)).map fun c => ownD (c.2.1, c.2.2.st)) = (ownC L e i).map ownD := by
      unfold ownC
      have e1 : L = (cs.zip L).map Prod.snd := (List.map_snd_zip (by omega)).symm
      conv => rhs; rw [e1]
      rw [List.filter_map, List.map_map, List.map_map]
      rfl
    rw [eo] at hY'
    have h13 := h12.trans s3
    have hz3 := s3 _ _ hz2
    have zl : zs.length ≤ 10 := by
      have := hzT.length
      rw [List.length_map, List.length_take] at this
      omega
    refine ⟨_, rfl, .inl ⟨rfl, _, SqL.of hz3⟩, ?_⟩
    refine ⟨_, rfl, _, rfl, _, rfl, vr, D, ys, r.2, ownC L e i, S, rfl, Tn.same h13 hvr, hD3, hY', bo.ok, bo.c, Nat.le_trans (ownC_len ..) hL, bo.own, bo.eff, fun x H4 s4 hx4 => ⟨by show 2 ≤ sizeLine; decide, fun t6 ht6 => ?_⟩⟩
    have z6 := Same.new ht6 (.tup [V.str r.1, x])
    have hz6 := z6 _ _ (s4 _ _ hz3)
    have hp6 : Tn K (upd H4 t6 (.tup [V.str r.1, x])) (.ref t6) (Td.pairD (r.1, chRows r.2 (ownC L e i))) := .tup (SqT.of upd_same) (.cons (.str _) (.cons (Tn.same z6 hx4) .nil))
    have h16 := h13.trans (s4.trans z6)
    have hzT6 := TnAll.keep (TK.of_same (s3.trans (s4.trans z6))) hzT2
    refine ⟨bl, zs, _, rfl, rfl, hz6, small1000 (by omega), ?_⟩
    have tk6 : TK (upd H4 t6 (.tup [V.str r.1, x])) (upd (upd H4 t6 (.tup [V.str r.1, x])) bl (.lst (zs ++ [.ref t6]))) := TK.upd (by rw [hz6]; trivial)
    refine ⟨_, _, _, _, zs ++ [.ref t6], rfl, own_same h16 hbl, upd_same, ?_⟩
    rw [take_more (chB_at hr2), List.map_append]
    exact TnAll.append (TnAll.keep tk6 hzT6) (.cons (Tn.keep tk6 hp6) .nil)
  · rintro σ H1 ⟨v4, v5, v6, v7, zs, rfl, h1, hz, hzT⟩
    rw [xl, ← cbl, List.take_length] at hzT
    refine ⟨_, rfl, bl, _, rfl, .inl ⟨SqL.of hz, fun t ht => ?_⟩⟩
    have z := Same.new ht (.tup zs)
    exact q _ _ (h1.trans z) (.tup (SqT.of upd_same) (TnAll.keep (TK.of_same z) hzT))
end
end K77
namespace K77
open PySem PySem.Spec PyProof.Rows L2 Td
def spChBodT (K : PySem.W.Frag) : Sp := fun vs H Q _ => ∃ (v : V) (l : Addr) (cs : List V) (e : Bool) (L : List (Bool × Way)) (ps : List (Str × List Td.Row)), vs = [.str (kdW e), v, .ref l] ∧ Tn K H v (pairsD ps) ∧ SqT K H l cs ∧ TnAll K H cs (L.map chgD) ∧ L.length ≤ 20 ∧ ps.length ≤ 10 ∧ (∀ (i : Nat) (q : Str × List Td.Row), ps[i]? = some q → ∃ S, BodOk L e i q S) ∧
  ∀ (x : V) H', Same H H' → Tn K H' x (pairsD (chBodies L e ps)) → Q x H'
section
variable {P : Program} {w : World} {K : PySem.W.Frag} {mg : Str → Option Value} {base : Heap}
theorem ok_ch_bodiesT (T : Tops w K mg) (G_changed_rows : FnOk P w K mg base CX0 5 T.a_changed_rows T.d_changed_rows ["rows", "changes"] (spChRows K)) :
    FnOk P w K mg base CX0 6 T.a_changed_bodies T.d_changed_bodies ["kind", "pairs", "changes"] (spChBodT K) := by
  refine T.F_changed_bodies.ok sc_changed_bodies (fun vs H Q E h => ?_) (fun cdv A outer s H vs Q E hr h => ?_)
  · obtain ⟨v, l, cs, e, L, ps, rfl, _⟩ := h
    rfl
  obtain ⟨v, l, cs, e, L, ps, rfl, hD, hl, hC, hL, hps, hbod, q⟩ := h
  have cl : cs.length = L.length := by have := hC.length; rwa [List.length_map] at this
  obtain ⟨va, xs, rfl, hS, hT⟩ := Tn.tup_inv hD
  have xl : xs.length = ps.length := by have := hT.length; rwa [List.length_map] at this
  have cbl : (chBodies L e ps).length = ps.length := by unfold chBodies; rw [List.length_mapIdx]
  refine ⟨_, (pss_cons (ps_set (i := 3) sc_changed_bodies.nd rfl (Or.inl rfl) (pe_lst pa_nil))
    (pss_cons (ps_for PassesOwn.never rfl (pi_enumT rfl T.z_enumerate (pa_cons (pv 1) pa_nil)) (pg_tup rfl (pgs_cons (pg_name (i := 4) sc_changed_bodies.nd rfl (Or.inr rfl)) (pgs_cons (pg_tup rfl (pgs_cons (pg_name (i := 5) sc_changed_bodies.nd rfl (Or.inl rfl)) (pgs_cons (pg_name (i := 6) sc_changed_bodies.nd rfl (Or.inl rfl)) pgs_nil))) pgs_nil))) (pss_cons (ps_setLc (i := 7) (own := [(("word" : Str), 8), (("path" : Str), 9)]) (wi := (iTup K (tVar 2))) (g := gTup K 2 (gCons (gName 8) (gCons (gName 9) gNil))) (tt := (tTest (tOp (rEqD K) (tSl (rSlA K) (tVar 9) tNoPart (tPart (tC (.int 2)))) (tTup (tCons (tVar 0) (tCons (tVar 4) tNil)))))) (te := (tTup (tCons (tVar 8) (tCons (tSl (rSlA K) (tVar 9) (tPart (tC (.int 2))) tNoPart) tNil)))) rfl sc_changed_bodies.nd rfl rfl (sw_true rfl rfl rfl (by decide +kernel)) (pi_tup (pv 2)) (blkOk_by (own := [(("word" : Str), 8), (("path" : Str), 9)]) (N := N_changed_bodies) (sc := defScope s_changed_bodies) (by decide +kernel)) (fun _ _ _ _ _ => (pg_tup rfl (pgs_cons (pg_name (i := 8) sc_changed_bodies.nd rfl (Or.inl rfl)) (pgs_cons (pg_name (i := 9) sc_changed_bodies.nd rfl (Or.inl rfl)) pgs_nil)))) (fun _ _ _ _ _ => (pts_one (pt_cmpR (op_eqD hr.units) (pe_slice sl_tupA (pv 9) po_none (po_some pe_int)) (pe_tup (pa_cons (pv 0) (pa_cons (pv 4) pa_nil))) (nomark _)))) (fun _ _ _ _ _ => (pe_tup (pa_cons (pv 8) (pa_cons (pe_slice sl_tupA (pv 9) (po_some pe_int) po_none) pa_nil)))))
    (pss_one (ps_expr (pe_bm PySem.F.plainAttrs_list PySem.F.slot_list_append PySem.F.type_list_append mt_append (pv 3) (pa_cons (pe_tup (pa_cons (pv 5) (pa_cons (pe_call G_changed_rows (hr.mono (by omega)) rfl T.m_changed_rows T.F_changed_rows.kp T.b_changed_rows .nil pass0 (pa_cons (pv 6) (pa_cons (pv 7) pa_nil))) pa_nil))) pa_nil))))))
    (pss_one (ps_ret (pe_callTy (T := "tuple") call_tuple_of rfl T.z_tuple (by decide +kernel) (pa_cons (pv 3) pa_nil)))))), ?_⟩
  refine ⟨by show 0 ≤ sizeLine; decide, fun bl hbl => ?_⟩
  have s1 := Same.new hbl (.lst [])
  refine ⟨_, rfl, va, _, rfl, SqT.same s1 hS, for_enumT (K := K) (a := va) (xs := xs) (fun i σ H' => ∃ (v4 v5 v6 v7 : Option V) (zs : List V), σ = [some (.str (kdW e)), some (.ref va), some (.ref l), some (.ref bl), v4, v5, v6, v7, none, none] ∧ Same H H' ∧ H' bl = some (.lst zs) ∧ TnAll K H' zs (((chBodies L e ps).take i).map Td.pairD))
    ⟨none, none, none, none, [], rfl, s1, upd_same, by rw [List.take_zero]; exact .nil⟩ (fun i σ H' _ ⟨_, _, _, _, _, _, z, _⟩ => SqT.same z hS) ?_ ?_⟩
  · rintro i x σ H1 t hx ⟨v4, v5, v6, v7, zs, rfl, h1, hz, hzT⟩ ht
    have il : i < ps.length := by rw [← xl]; exact (List.getElem?_eq_some_iff.mp hx).1
    obtain ⟨r, b, vr, hr2, rfl, hB, hvr⟩ := pair_get hT hx
    obtain ⟨S, bo⟩ := hbod i r hr2
    have s2 := Same.new ht (.tup [.int (i : Nat), .ref b])
    have h12 := h1.trans s2
    have hz2 := s2 _ _ hz
    have hzT2 := TnAll.keep (TK.of_same s2) hzT
    have ht2 : upd H1 t (.tup [.int (i : Nat), .ref b]) t = some (.tup [.int (i : Nat), .ref b]) := upd_same
    refine ⟨t, _, rfl, SqT.of ht2, rfl, _, _, rfl, _, _, rfl, ?_⟩
    refine ⟨b, _, rfl, SqT.same h12 hB, rfl, _, _, rfl, _, _, rfl, rfl, rfl, ?_⟩
    generalize upd H1 t (.tup [.int (i : Nat), V.ref b]) = H2 at h12 hz2 hzT2
    have hl2 := SqT.same h12 hl
    refine ⟨_, rfl, l, rfl, ⟨_, hl2⟩, fun D hD2 => buS_tup (cs.zip L) Prod.fst (fun c => decide (c.2.2.e = e) && decide (c.2.2.i = i)) (fun H v c => Tn K H v (ownD (c.2.1, c.2.2.st))) (fun k h => Tn.keep k h) hl2 (zip_fstB cl) (by rw [List.length_zip]; omega) hD2 ?_ ?_⟩
    · rintro j c H' hc hs Yes No yes no
      obtain ⟨q1, q2⟩ := zip_atB hc
      obtain ⟨d, hd1, hd2⟩ := TnAll.get hC q1
      rw [List.getElem?_map, q2] at hd1
      obtain rfl := Option.some.inj hd1
      obtain ⟨tc, wb, e1, hTc, hWb⟩ := chg_tn hd2
      have s02 := h12.trans hs
      show gTup _ _ _ c.1 _ _ _
      rw [e1]
      refine ⟨tc, _, rfl, SqT.same s02 hTc, rfl, _, _, rfl, _, _, rfl, rfl, rfl, ?_⟩
      have hWb2 := SqT.same s02 hWb
      refine ⟨_, rfl, ?_⟩
      dsimp only [tNoPart]
      refine ⟨2, rfl, sl_all hWb2 fun p1 H3 s3 h3 => ?_⟩
      rw [show cutV c.2.2.vs none (some (2 : Int)) = c.2.2.vs.take 2 from cut_to _ 2 (by unfold Way.vs; simp)] at h3
      refine ⟨_, rfl, _, rfl, by show 2 ≤ sizeLine; decide, fun t3 ht3 => ?_⟩
      have z3 := Same.new ht3 (.tup [V.str (kdW e), .int (i : Nat)])
      refine ⟨.tuple [.str (kdW c.2.2.e), .int (c.2.2.i : Nat)], .tuple [.str (kdW e), .int (i : Nat)], .tup (SqT.same z3 h3) (.cons (.str _) (.cons (.int _) .nil)), .tup (SqT.of upd_same) (.cons (.str _) (.cons (.int _) .nil)), head_shaped _ _, head_shaped _ _, _, rfl, ?_⟩
      rw [head_eq]
      refine if_known (fun h => ?_) (fun h => ?_)
      · refine ⟨_, rfl, _, rfl, 2, rfl, ?_⟩
        dsimp only [tNoPart]
        refine sl_all (SqT.same (s3.trans z3) hWb2) fun p2 H4 s4 h4 => ?_
        rw [show cutV c.2.2.vs (some (2 : Int)) none = c.2.2.vs.drop 2 from cut_fromN _ 2] at h4
        refine ⟨by show 2 ≤ sizeLine; decide, fun t5 ht5 => ?_⟩
        have z5 := Same.new ht5 (.tup [V.str (chS c.2.1), .ref p2])
        exact yes h _ _ ((s3.trans z3).trans (s4.trans z5)) (.tup (SqT.of upd_same) (.cons (.str _) (.cons (.tup (SqT.same z5 h4) (ints_tn _)) .nil)))
      · exact no h _ (s3.trans z3)
    rintro H3 ys s3 hD3 hY
    have hY' := rwsTn _ _ hY
    have eo : (((cs.zip L).filter fun c => decide (c.2.2.e = e) && decide (c.2.2.i = i)).map fun c => ownD (c.2.1, c.2.2.st)) = (ownC L e i).map ownD := by
      unfold ownC
      have e1 : L = (cs.zip L).map Prod.snd := (List.map_snd_zip (by omega)).symm
      conv => rhs; rw [e1]
      rw [List.filter_map, List.map_map, List.map_map]
      rfl
    rw [eo] at hY'
    have h13 := h12.trans s3
    have hz3 := s3 _ _ hz2
    have zl : zs.length ≤ 10 := by
      have := hzT.length
      rw [List.length_map, List.length_take] at this
      omega
    refine ⟨_, rfl, .inl ⟨rfl, _, SqL.of hz3⟩, ?_⟩
    refine ⟨_, rfl, _, rfl, _, rfl, vr, D, ys, r.2, ownC L e i, S, rfl, Tn.same h13 hvr, hD3, hY', bo.ok, bo.c, Nat.le_trans (ownC_len ..) hL, bo.own, bo.eff, fun x H4 s4 hx4 => ⟨by show 2 ≤ sizeLine; decide, fun t6 ht6 => ?_⟩⟩
    have z6 := Same.new ht6 (.tup [V.str r.1, x])
    have hz6 := z6 _ _ (s4 _ _ hz3)
    have hp6 : Tn K (upd H4 t6 (.tup [V.str r.1, x])) (.ref t6) (Td.pairD (r.1, chRows r.2 (ownC L e i))) := .tup (SqT.of upd_same) (.cons (.str _) (.cons (Tn.same z6 hx4) .nil))
    have h16 := h13.trans (s4.trans z6)
    have hzT6 := TnAll.keep (TK.of_same (s3.trans (s4.trans z6))) hzT2
    refine ⟨bl, zs, _, rfl, rfl, hz6, small1000 (by omega), ?_⟩
    have tk6 : TK (upd H4 t6 (.tup [V.str r.1, x])) (upd (upd H4 t6 (.tup [V.str r.1, x])) bl (.lst (zs ++ [.ref t6]))) := TK.upd (by rw [hz6]; trivial)
    refine ⟨_, _, _, _, zs ++ [.ref t6], rfl, own_same h16 hbl, upd_same, ?_⟩
    rw [take_more (chB_at hr2), List.map_append]
    exact TnAll.append (TnAll.keep tk6 hzT6) (.cons (Tn.keep tk6 hp6) .nil)
  · rintro σ H1 ⟨v4, v5, v6, v7, zs, rfl, h1, hz, hzT⟩
    rw [xl, ← cbl, List.take_length] at hzT
    refine ⟨_, rfl, bl, _, rfl, .inl ⟨SqL.of hz, fun t ht => ?_⟩⟩
    have z := Same.new ht (.tup zs)
    exact q _ _ (h1.trans z) (.tup (SqT.of upd_same) (TnAll.keep (TK.of_same z) hzT))
end
end K77
namespace K77
open PySem PySem.Spec PyProof.Rows L2 Td
/-- an InvalidProgram is let out -/
def RzIP (K : PySem.W.Frag) (CI : Addr) (H : Hp) (E : XK) (pt : Str) (pd : PyData) : Prop := ∀ (v : V) (d : Addr) (H' : Hp), Same H H' → Dp K H' v pd → H d = none → H' d = some (.xd [("path", v), ("part", .str pt)]) → E (.ref CI) (some d) H'
theorem RzIP.later {K : PySem.W.Frag} {CI : Addr} {H H1 : Hp} {E : XK} {pt : Str} {pd : PyData} (r : RzIP K CI H E pt pd) (s : Same H H1) : RzIP K CI H1 E pt pd := fun v d H' s' hv hd e => by
  refine r v d H' (s.trans s') hv ?_ e
  cases z : H d with
  | none => rfl
  | some o => rw [s _ _ z] at hd; cases hd
theorem RzIP.made {K : PySem.W.Frag} {CI : Addr} {H : Hp} {E : XK} {pt : Str} {pd : PyData} {v : V} (r : RzIP K CI H E pt pd) (hv : Dp K H v pd) : ∀ (d : Addr) (H' : Hp), Same H H' → H d = none → H' d = some (.xd [("path", v), ("part", .str pt)]) → E (.ref CI) (some d) H' :=
  fun d H' s hd e => r v d H' s (Dp.same s hv) hd e
/-! ### bodies of too many rows -/
def firstMany : Nat → List (Str × List Td.Row) → Option Nat
  | _, [] => none
  | i, q :: r => if cnts q.2 ≤ 16 then firstMany (i + 1) r else some i
def manyOf (p : PP) : Option (Bool × Nat) := match firstMany 0 p.derived with
  | some i => some (false, i)
  | none => (firstMany 0 p.effects).map fun i => (true, i)
theorem firstMany_drop {ps : List (Str × List Td.Row)} {i : Nat} {q : Str × List Td.Row} (h : ps[i]? = some q) : firstMany i (ps.drop i) = if cnts q.2 ≤ 16 then firstMany (i + 1) (ps.drop (i + 1)) else some i := by
  have hi : i < ps.length := (List.getElem?_eq_some_iff.mp h).1
  rw [List.drop_eq_getElem_cons hi, (List.getElem?_eq_some_iff.mp h).2]
  rfl
def spBodyM (K : PySem.W.Frag) (CS CI : Addr) : Sp := fun vs H Q E => ∃ (v : V) (sa : Addr) (S : Sc) (rs : List Td.Row) (i : Int), vs = [v, .ref sa, .int i] ∧ Dp K H v (.tuple (rowsD rs)) ∧ ScopeAt K H CS sa S ∧ okRs S 1 rs ∧ cnts rs ≤ 60 ∧
  (cnts rs ≤ 16 → ∀ H', Same H H' → Q .non H') ∧ (16 < cnts rs → RzIP K CI H E "many" (.tuple [.str (kdS S.eff), .int i]))
def spBodiesM (K : PySem.W.Frag) (CI : Addr) : Sp := fun vs H Q E => ∃ (aw as : Addr) (vd ve : V) (p : PP), vs = [.ref aw, .ref as, vd, ve] ∧ SqT K H aw (p.words.map V.str) ∧ SqT K H as (p.sources.map V.str) ∧ Tn K H vd (pairsD p.derived) ∧ Tn K H ve (pairsD p.effects) ∧ p.Ok 60 ∧
  (manyOf p = none → ∀ H', Same H H' → Q .non H') ∧ (∀ e i, manyOf p = some (e, i) → RzIP K CI H E "many" (.tuple [.str (kdS e), .int (i : Nat)]))
def spPartsM (K : PySem.W.Frag) : Sp := fun vs H Q _ => ∃ (aw as : Addr) (vd ve : V) (p : PP) (m : Nat), vs = [.ref aw, .ref as, vd, ve] ∧ SqT K H aw (p.words.map V.str) ∧ SqT K H as (p.sources.map V.str) ∧ Tn K H vd (pairsD p.derived) ∧ Tn K H ve (pairsD p.effects) ∧
  p.Ok m ∧ ∀ H', Same H H' → Q .non H'
def spProgM (K : PySem.W.Frag) (CP CI : Addr) : Sp := fun vs H Q E => ∃ (x dx aw as : Addr) (vd ve : V) (p : PP), vs = [.ref x, .ref aw, .ref as, vd, ve] ∧ H x = some (.ins CP dx []) ∧ SqT K H aw (p.words.map V.str) ∧ SqT K H as (p.sources.map V.str) ∧ Tn K H vd (pairsD p.derived) ∧ Tn K H ve (pairsD p.effects) ∧ p.Ok 60 ∧
  (manyOf p = none → ∀ (dn en : Addr) H', Same H H' → SqT K (upd H' x (.ins CP dx (progF aw as vd ve dn en))) dn (p.derived.map fun q => V.str q.1) → SqT K (upd H' x (.ins CP dx (progF aw as vd ve dn en))) en (p.effects.map fun q => V.str q.1) → Q .non (upd H' x (.ins CP dx (progF aw as vd ve dn en)))) ∧
  (∀ e i, manyOf p = some (e, i) → RzIP K CI H E "many" (.tuple [.str (kdS e), .int (i : Nat)]))
section
variable {P : Program} {w : World} {K : PySem.W.Frag} {mg : Str → Option Value} {base : Heap}
theorem ok_InvalidProgram (T : Tops w K mg) : FnOk P w K mg base CX0 1 T.a_InvalidProgram_init T.d_InvalidProgram_init ["self", "part", "path"] (spExc2 K T.c_InvalidProgram "part" "path") := by
  refine T.F_InvalidProgram_init.ok sc_InvalidProgram_init (fun vs H Q E h => ?_) (fun cdv A outer s H vs Q E hr h => ?_)
  · obtain ⟨a, y1, y2, rfl, _⟩ := h
    rfl
  obtain ⟨a, y1, y2, rfl, ha, q⟩ := h
  refine ⟨_, (pss_cons (ps_ost (pv 0) (pv 1))
    (pss_one (ps_ost (pv 0) (pv 2)))), ?_⟩
  refine ⟨_, rfl, _, rfl, a, T.c_InvalidProgram, rfl, T.x_InvalidProgram, T.n_InvalidProgram_part, .inl ⟨ha, fun dx h1 h2 => ?_⟩⟩
  refine ⟨_, rfl, _, rfl, a, T.c_InvalidProgram, rfl, T.x_InvalidProgram, T.n_InvalidProgram_path, .inr ⟨dx, _, upd_same, by rw [upd_ne h2]; exact upd_same, by show 1 ≤ 900; decide, ?_⟩⟩
  exact q dx _ h1 h2 rfl
theorem ok_check_partsM (T : Tops w K mg) (G_are_names : FnOk P w K mg base CX0 2 T.a_are_names T.d_are_names ["value", "least", "most"] (spAreNames K))
    (G_are_named_pairs : FnOk P w K mg base CX0 2 T.a_are_named_pairs T.d_are_named_pairs ["value", "most", "taken"] (spNamedPairs K))
    (G_names_of : FnOk P w K mg base CX0 1 T.a_names_of T.d_names_of ["pairs"] (spNamesOf K)) :
    FnOk P w K mg base CX0 3 T.a_check_parts T.d_check_parts ["words", "sources", "derived", "effects"] (spPartsM K) := by
  refine T.F_check_parts.ok sc_check_parts (fun vs H Q E h => ?_) (fun cdv A outer s H vs Q E hr h => ?_)
  · obtain ⟨aw, as, vd, ve, p, m, rfl, _⟩ := h
    rfl
  obtain ⟨aw, as, vd, ve, p, m, rfl, hW, hSo, hDe, hEf, ok, q⟩ := h
  obtain ⟨n1, n2, n3⟩ := names_parts ok.nn
  have w2 := ok.w2
  have w4 := ok.w4
  have s1 := ok.s1
  have s4 := ok.s4
  have d6 := ok.d6
  have e4 := ok.e4
  refine ⟨_, (pss_cons (ps_if (pt_not (pt_val (pe_call G_are_names (hr.mono (by omega)) rfl T.m_are_names T.F_are_names.kp T.b_are_names .nil pass0 (pa_cons (pv 0) (pa_cons (pe_glob (v := .int 2) rfl T.c_LEAST_WORDS ⟨_, rfl⟩) (pa_cons (pe_glob (v := .int 4) rfl T.c_MOST_WORDS ⟨_, rfl⟩) pa_nil)))))) (pss_one ps_never) pss_nil)
    (pss_cons (ps_if (pt_not (pt_val (pe_call G_are_names (hr.mono (by omega)) rfl T.m_are_names T.F_are_names.kp T.b_are_names .nil pass0 (pa_cons (pv 1) (pa_cons (pe_glob (v := .int 1) rfl T.c_LEAST_SOURCES ⟨_, rfl⟩) (pa_cons (pe_glob (v := .int 4) rfl T.c_MOST_SOURCES ⟨_, rfl⟩) pa_nil)))))) (pss_one ps_never) pss_nil)
    (pss_cons (ps_if (pt_not (pt_val (pe_call G_are_named_pairs (hr.mono (by omega)) rfl T.m_are_named_pairs T.F_are_named_pairs.kp T.b_are_named_pairs .nil pass0 (pa_cons (pv 2) (pa_cons (pe_glob (v := .int 6) rfl T.c_MOST_DERIVED ⟨_, rfl⟩) (pa_cons (pv 1) pa_nil)))))) (pss_one ps_never) pss_nil)
    (pss_one (ps_if (pt_not (pt_val (pe_call G_are_named_pairs (hr.mono (by omega)) rfl T.m_are_named_pairs T.F_are_named_pairs.kp T.b_are_named_pairs .nil pass0 (pa_cons (pv 3) (pa_cons (pe_glob (v := .int 4) rfl T.c_MOST_EFFECTS ⟨_, rfl⟩) (pa_cons (pe_op op_catA (pv 1) (pe_call G_names_of (hr.mono (by omega)) rfl T.m_names_of T.F_names_of.kp T.b_names_of .nil pass0 (pa_cons (pv 2) pa_nil))) pa_nil)))))) (pss_one ps_never) pss_nil))))), ?_⟩
  refine ⟨_, rfl, aw, p.words, _, _, rfl, hW, ok.wn, by omega, by omega, by omega, fun H1 h1 => ⟨_, rfl, if_false_of rfl ?_⟩⟩
  refine ⟨_, rfl, as, p.sources, _, _, rfl, SqT.same h1 hSo, n1, by omega, by omega, by omega, fun H2 h2 => ⟨_, rfl, if_false_of rfl ?_⟩⟩
  have h12 := h1.trans h2
  refine ⟨_, rfl, _, rfl, vd, as, p.derived, p.sources, _, rfl, Tn.same h12 hDe, SqT.same h12 hSo, n2, by omega, by omega, by omega, fun H3 h3 => ⟨_, rfl, if_false_of rfl ?_⟩⟩
  have h13 := h12.trans h3
  refine ⟨_, rfl, _, rfl, _, rfl, vd, p.derived, rfl, Tn.same h13 hDe, by omega, fun b H4 h4 hb => ?_⟩
  have h14 := h13.trans h4
  refine cat_all (SqT.same h14 hSo) hb (Nat.le_of_lt (small1000 (by rw [List.length_map, List.length_map]; omega))) (fun c H5 h5 hc => ?_)
  refine ⟨ve, c, p.effects, p.sources ++ p.derived.map (·.1), _, rfl, Tn.same (h14.trans h5) hEf, ?_, n3, by omega, by omega, by rw [List.length_append, List.length_map]; omega, fun H6 h6 => ⟨_, rfl, if_false_of rfl ?_⟩⟩
  · have hc' : SqT K H5 c (p.sources.map V.str ++ p.derived.map fun q => V.str q.1) := hc
    rw [List.map_append, List.map_map]; exact hc'
  · exact q H6 ((h14.trans h5).trans h6)
theorem ok_check_bodyM (T : Tops w K mg) (G_first_wrong_path : FnOk P w K mg base CX0 7 T.a_first_wrong_path T.d_first_wrong_path ["rows", "scope", "base", "depth"] (spFirst K T.c_Scope 4))
    (G_paths_of_rows : FnOk P w K mg base CX0 4 T.a_paths_of_rows T.d_paths_of_rows ["rows", "base"] (spPaths K 4))
    (G_InvalidProgram_init : FnOk P w K mg base CX0 1 T.a_InvalidProgram_init T.d_InvalidProgram_init ["self", "part", "path"] (spExc2 K T.c_InvalidProgram "part" "path")) :
    FnOk P w K mg base (L2.CX P w) 8 T.a_check_body T.d_check_body ["rows", "scope", "index"] (spBodyM K T.c_Scope T.c_InvalidProgram) := by
  refine T.F_check_body.okX sc_check_body (fun vs H Q E h => ?_) (fun cdv A outer s H vs Q E hr h => ?_)
  · obtain ⟨v, sa, S, rs, i, rfl, _⟩ := h
    rfl
  obtain ⟨v, sa, S, rs, i, rfl, hD, hSc, ok, hc, q, rz⟩ := h
  obtain ⟨dx, aw, as, ar, e, h1, h2, h3⟩ := hSc.ex
  refine ⟨_, (pss_cons (ps_set (i := 3) sc_check_body.nd rfl (Or.inl rfl) (pe_tup (pa_cons (pe_fld (pv 1) rfl) (pa_cons (pv 2) pa_nil))))
    (pss_cons (ps_if (pt_not (pt_val (pe_callB call_isi rfl T.z_isinstance (by decide +kernel) (pa_cons (pv 0) (pa_cons (pe_bltn (v := .ty "tuple") rfl T.z_tuple (by decide +kernel) rfl) pa_nil))))) (pss_one (ps_raise rfl (takes_of rfl rfl rfl rfl) (pmk_oex T.x_InvalidProgram T.xi_InvalidProgram T.xt_InvalidProgram G_InvalidProgram_init (hr.mono (by omega)) T.b_InvalidProgram_init .nil pass0 rfl T.m_InvalidProgram (pa_cons pe_str (pa_cons (pv 3) pa_nil))))) pss_nil)
    (pss_cons (ps_set (i := 4) sc_check_body.nd rfl (Or.inl rfl) (pe_call G_first_wrong_path (hr.mono (by omega)) rfl T.m_first_wrong_path T.F_first_wrong_path.kp T.b_first_wrong_path .nil pass0 (pa_cons (pv 0) (pa_cons (pv 1) (pa_cons (pv 3) (pa_cons pe_int pa_nil))))))
    (pss_cons (ps_if (pt_cmpR op_notN (pv 4) pe_non (nomark _)) (pss_one (ps_raise rfl (takes_of rfl rfl rfl rfl) (pmk_oex T.x_InvalidProgram T.xi_InvalidProgram T.xt_InvalidProgram G_InvalidProgram_init (hr.mono (by omega)) T.b_InvalidProgram_init .nil pass0 rfl T.m_InvalidProgram (pa_cons pe_str (pa_cons (pv 4) pa_nil))))) pss_nil)
    (pss_one (ps_if (pt_cmpR op_gt (pe_callB call_len rfl T.z_len PySem.boot_len (pa_cons (pe_call G_paths_of_rows (hr.mono (by omega)) rfl T.m_paths_of_rows T.F_paths_of_rows.kp T.b_paths_of_rows .nil pass0 (pa_cons (pv 0) (pa_cons (pv 3) pa_nil))) pa_nil)) (pe_glob (v := .int 16) rfl T.c_MOST_ROWS ⟨_, rfl⟩) (nomark _)) (pss_one (ps_raise rfl (takes_of rfl rfl rfl rfl) (pmk_oex T.x_InvalidProgram T.xi_InvalidProgram T.xt_InvalidProgram G_InvalidProgram_init (hr.mono (by omega)) T.b_InvalidProgram_init .nil pass0 rfl T.m_InvalidProgram (pa_cons pe_str (pa_cons (pv 3) pa_nil))))) pss_nil)))))), ?_⟩
  refine ⟨_, rfl, sa, _, dx, _, _, rfl, e, T.l_Scope, T.n_Scope_kind, scF_kind .., _, rfl, by show 2 ≤ sizeLine; decide, fun b hb => ?_⟩
  have s1 : Same H (upd H b (.tup [.str (kdS S.eff), .int i])) := Same.new hb _
  have hB : SqT K (upd H b (.tup [.str (kdS S.eff), .int i])) b [.str (kdS S.eff), .int i] := SqT.of upd_same
  show tSeq _ _ _ _ (upd H b (.tup [.str (kdS S.eff), .int i]))
  generalize upd H b (.tup [.str (kdS S.eff), .int i]) = H1 at s1 hB
  have hD1 := Dp.same s1 hD
  refine ⟨_, rfl, v, .ty "tuple", .type (tyD (.tuple (rowsD rs))), .type "tuple", _, rfl, .ty _, ty_data hD1, kit_tuple _, _, rfl, ?_⟩
  refine if_false_of rfl ?_
  refine ⟨_, rfl, _, rfl, _, rfl, _, sa, b, _, S, 1, rs, rfl, hD1, hSc.same s1, hB, by simp, by simp, ok, by omega, by omega, fun H2 s2 => ?_⟩
  refine ⟨_, rfl, rfl, _, rfl, if_false_of rfl ?_⟩
  have s12 := s1.trans s2
  refine ⟨_, rfl, _, rfl, _, b, _, S, 1, rs, rfl, Dp.same s12 hD, SqT.same s2 hB, by simp, by simp, ok, by omega, by omega, by omega, fun p ys H3 s3 hp hy hyl => ?_⟩
  have s13 := s12.trans s3
  refine ⟨.ref p, _, rfl, .inl ⟨_, SqL.of hy, rfl⟩, _, _, rfl, rfl, _, rfl, ?_⟩
  by_cases h16 : cnts rs ≤ 16
  · exact if_false_of (decide_eq_false (by rw [hyl]; omega)) (q h16 H3 s13)
  · refine if_true_of (decide_eq_true (by rw [hyl]; omega)) ?_
    exact ⟨_, rfl, made_two ((rz (by omega)).later s13 |>.made (.tup (SqT.same (s2.trans s3) hB) (.cons (.str _) (.cons (.int _) .nil))))⟩
theorem ok_check_bodiesM (T : Tops w K mg) (G_check_body : FnOk P w K mg base (L2.CX P w) 8 T.a_check_body T.d_check_body ["rows", "scope", "index"] (spBodyM K T.c_Scope T.c_InvalidProgram))
    (G_Scope_init : FnOk P w K mg base CX0 1 T.a_Scope_init T.d_Scope_init ["self", "kind", "words", "sources", "readable"] (spScope T.c_Scope)) :
    FnOk P w K mg base (L2.CX P w) 9 T.a_check_bodies T.d_check_bodies ["words", "sources", "derived", "effects"] (spBodiesM K T.c_InvalidProgram) := by
  refine T.F_check_bodies.okX sc_check_bodies (fun vs H Q E h => ?_) (fun cdv A outer s H vs Q E hr h => ?_)
  · obtain ⟨aw, as, vd, ve, p, rfl, _⟩ := h
    rfl
  obtain ⟨aw, as, vd, ve, p, rfl, hW, hSo, hDe, hEf, ok, q, r⟩ := h
  obtain ⟨ad, xs, rfl, hA, hl, hx⟩ := pairs_at hDe
  obtain ⟨ae, ys, rfl, hA2, hl2, hx2⟩ := pairs_at hEf
  refine ⟨_, (pss_cons (ps_set (i := 4) sc_check_bodies.nd rfl (Or.inl rfl) (pv 1))
    (pss_cons (ps_for (passes_of rfl) rfl (pi_enumT rfl T.z_enumerate (pa_cons (pv 2) pa_nil)) (pg_tup rfl (pgs_cons (pg_name (i := 5) sc_check_bodies.nd rfl (Or.inl rfl)) (pgs_cons (pg_tup rfl (pgs_cons (pg_name (i := 6) sc_check_bodies.nd rfl (Or.inl rfl)) (pgs_cons (pg_name (i := 7) sc_check_bodies.nd rfl (Or.inl rfl)) pgs_nil))) pgs_nil))) (pss_cons (ps_expr (pe_call G_check_body (hr.mono (by omega)) rfl T.m_check_body T.F_check_body.kp T.b_check_body .nil (passes_call (takes_of rfl rfl rfl rfl) (fun _ _ _ _ h => h)) (pa_cons (pv 7) (pa_cons (pe_make T.k_Scope G_Scope_init (hr.mono (by omega)) rfl T.m_Scope T.b_Scope_init .nil pass0 (pa_cons pe_str (pa_cons (pv 0) (pa_cons (pv 1) (pa_cons (pv 4) pa_nil))))) (pa_cons (pv 5) pa_nil)))))
    (pss_one (ps_set (i := 4) sc_check_bodies.nd rfl (Or.inl rfl) (pe_op op_catA (pv 4) (pe_tup (pa_cons (pv 6) pa_nil)))))))
    (pss_one (ps_for (passes_of rfl) rfl (pi_enumT rfl T.z_enumerate (pa_cons (pv 3) pa_nil)) (pg_tup rfl (pgs_cons (pg_name (i := 5) sc_check_bodies.nd rfl (Or.inl rfl)) (pgs_cons (pg_tup rfl (pgs_cons (pg_name (i := 8) sc_check_bodies.nd rfl (Or.inl rfl)) (pgs_cons (pg_name (i := 7) sc_check_bodies.nd rfl (Or.inl rfl)) pgs_nil))) pgs_nil))) (pss_one (ps_expr (pe_call G_check_body (hr.mono (by omega)) rfl T.m_check_body T.F_check_body.kp T.b_check_body .nil (passes_call (takes_of rfl rfl rfl rfl) (fun _ _ _ _ h => h)) (pa_cons (pv 7) (pa_cons (pe_make T.k_Scope G_Scope_init (hr.mono (by omega)) rfl T.m_Scope T.b_Scope_init .nil pass0 (pa_cons pe_str (pa_cons (pv 0) (pa_cons (pv 1) (pa_cons (pv 4) pa_nil))))) (pa_cons (pv 5) pa_nil)))))))))), ?_⟩
  refine ⟨_, rfl, ?_⟩
  refine ⟨_, rfl, ad, _, rfl, hA, for_enumT (K := K) (a := ad) (xs := xs) (fun i σ H' => ∃ (ar : Addr) (v5 v6 v7 : Option V), σ = [some (.ref aw), some (.ref as), some (.ref ad), some (.ref ae), some (.ref ar), v5, v6, v7, none] ∧ Same H H' ∧ SqT K H' ar ((p.sources ++ (p.derived.take i).map (·.1)).map V.str) ∧ firstMany 0 p.derived = firstMany i (p.derived.drop i))
    ⟨as, none, none, none, rfl, Same.refl _, by simpa using hSo, rfl⟩ (fun i σ H' _ ⟨_, _, _, _, _, hs, _⟩ => SqT.same hs hA) ?_ ?_⟩
  · rintro i x σ H1 t hi ⟨ar, v5, v6, v7, rfl, hs, hR, fm⟩ ht
    obtain ⟨qq, b, vr, hq, rfl, hB, hT⟩ := hx i x hi
    have hs1 : Same H (upd H1 t (.tup [.int (i : Nat), .ref b])) := hs.trans (Same.new ht _)
    have hR1 := SqT.same (Same.new ht (.tup [.int (i : Nat), .ref b])) hR
    refine ⟨t, _, rfl, SqT.of upd_same, rfl, _, _, rfl, _, _, rfl, ⟨b, _, rfl, SqT.same hs1 hB, rfl, _, _, rfl, _, _, rfl, rfl, ?_⟩⟩
    generalize upd H1 t (.tup [.int (i : Nat), .ref b]) = H2 at hs1 hR1
    obtain ⟨okd, hcd⟩ := okDer_get ok.der hq
    refine ⟨rfl, _, rfl, _, rfl, _, rfl, _, rfl, fun x dx hx hdx hne => ⟨x, dx, aw, as, ar, "derived", rfl, upd_same, rfl, _, rfl, ?_⟩⟩
    obtain ⟨H3, e3, s3, sc3⟩ := scope_made (C := T.c_Scope) (S := ⟨false, p.words, p.sources, p.sources ++ (p.derived.take i).map (·.1)⟩) hx hdx hne (SqT.same hs1 hW) (SqT.same hs1 hSo) hR1
    rw [show ("derived" : Str) = kdS false from rfl, e3]
    refine ⟨vr, x, _, qq.2, _, rfl, Dp.same (hs1.trans s3) hT.dp, sc3, okd, hcd, fun h16 H4 s4 => ?_, fun h17 => ?_⟩
    rotate_left
    · have e1 : manyOf p = some (false, i) := by unfold manyOf; rw [fm, firstMany_drop hq, if_neg (by omega)]
      exact (r _ _ e1).later (hs1.trans s3)
    rw [firstMany_drop hq, if_pos h16] at fm
    have s24 := s3.trans s4
    refine ⟨_, rfl, _, rfl, by show 1 ≤ sizeLine; decide, fun t1 ht1 => ?_⟩
    have s25 := s24.trans (Same.new ht1 (.tup [.str qq.1]))
    refine cat_all (SqT.same s25 hR1) (SqT.of upd_same) (Nat.le_of_lt (small1000 ?_)) (fun ar2 H6 s6 hR6 => ?_)
    · have h1 := ok.s4
      have h2 := ok.d6
      simp
      omega
    · refine ⟨ar2, _, _, _, rfl, hs1.trans (s25.trans s6), ?_, fm⟩
      rw [take_more hq]
      have hR7 : SqT K H6 ar2 (((p.sources ++ (p.derived.take i).map (·.1)).map V.str) ++ [V.str qq.1]) := hR6
      simpa using hR7
  · rintro σ H1 ⟨ar, v5, v6, v7, rfl, hs, hR, fm⟩
    rw [hl, List.take_length] at hR
    rw [hl, List.drop_length] at fm
    have fm0 : firstMany 0 p.derived = none := fm
    have em : manyOf p = (firstMany 0 p.effects).map fun i => (true, i) := by unfold manyOf; rw [fm0]
    refine ⟨_, rfl, ae, _, rfl, SqT.same hs hA2, for_enumT (K := K) (a := ae) (xs := ys) (fun i σ H' => ∃ (v5 v6 v7 v8 : Option V), σ = [some (.ref aw), some (.ref as), some (.ref ad), some (.ref ae), some (.ref ar), v5, v6, v7, v8] ∧ Same H1 H' ∧ firstMany 0 p.effects = firstMany i (p.effects.drop i))
      ⟨v5, v6, v7, none, rfl, Same.refl _, rfl⟩ (fun i σ H' _ ⟨_, _, _, _, _, h, _⟩ => SqT.same (hs.trans h) hA2) ?_ ?_⟩
    · rintro i x σ H2 t hi ⟨v5, v6, v7, v8, rfl, hs2, fe⟩ ht
      obtain ⟨qq, b, vr, hq, rfl, hB, hT⟩ := hx2 i x hi
      have hs3 : Same H1 (upd H2 t (.tup [.int (i : Nat), .ref b])) := hs2.trans (Same.new ht _)
      refine ⟨t, _, rfl, SqT.of upd_same, rfl, _, _, rfl, _, _, rfl, ⟨b, _, rfl, SqT.same (hs.trans hs3) hB, rfl, _, _, rfl, _, _, rfl, rfl, ?_⟩⟩
      generalize upd H2 t (.tup [.int (i : Nat), .ref b]) = H3 at hs3
      obtain ⟨okd, hcd⟩ := okEff_get ok.eff hq
      refine ⟨rfl, _, rfl, _, rfl, _, rfl, _, rfl, fun x dx hx hdx hne => ⟨x, dx, aw, as, ar, "effects", rfl, upd_same, rfl, _, rfl, ?_⟩⟩
      obtain ⟨H4, e4, s4, sc4⟩ := scope_made (C := T.c_Scope) (S := ⟨true, p.words, p.sources, p.cells⟩) hx hdx hne (SqT.same (hs.trans hs3) hW) (SqT.same (hs.trans hs3) hSo) (SqT.same hs3 hR)
      rw [show ("effects" : Str) = kdS true from rfl, e4]
      refine ⟨vr, x, _, qq.2, _, rfl, Dp.same ((hs.trans hs3).trans s4) hT.dp, sc4, okd, hcd, fun h16 H5 s5 => ?_, fun h17 => ?_⟩
      · rw [firstMany_drop hq, if_pos h16] at fe
        exact ⟨_, _, _, _, rfl, hs3.trans (s4.trans s5), fe⟩
      · have e1 : manyOf p = some (true, i) := by rw [em, fe, firstMany_drop hq, if_neg (by omega)]; rfl
        exact (r _ _ e1).later ((hs.trans hs3).trans s4)
    · rintro σ H2 ⟨_, _, _, _, rfl, hs2, fe⟩
      rw [hl2, List.drop_length] at fe
      exact q (by rw [em, fe]; rfl) H2 (hs.trans hs2)
theorem ok_programM (T : Tops w K mg) (G_check_parts : FnOk P w K mg base CX0 3 T.a_check_parts T.d_check_parts ["words", "sources", "derived", "effects"] (spPartsM K))
    (G_check_bodies : FnOk P w K mg base (L2.CX P w) 9 T.a_check_bodies T.d_check_bodies ["words", "sources", "derived", "effects"] (spBodiesM K T.c_InvalidProgram))
    (G_names_of : FnOk P w K mg base CX0 1 T.a_names_of T.d_names_of ["pairs"] (spNamesOf K)) :
    FnOk P w K mg base (L2.CX P w) 10 T.a_Program_init T.d_Program_init ["self", "words", "sources", "derived", "effects"] (spProgM K T.c_Program T.c_InvalidProgram) := by
  refine T.F_Program_init.okX sc_Program_init (fun vs H Q E h => ?_) (fun cdv A outer s H vs Q E hr h => ?_)
  · obtain ⟨x, dx, aw, as, vd, ve, p, rfl, _⟩ := h
    rfl
  obtain ⟨x, dx, aw, as, vd, ve, p, rfl, hx, hW, hSo, hDe, hEf, ok, q, r⟩ := h
  refine ⟨_, (pss_cons (ps_expr (pe_call G_check_parts (hr.mono (by omega)) rfl T.m_check_parts T.F_check_parts.kp T.b_check_parts .nil pass0 (pa_cons (pv 1) (pa_cons (pv 2) (pa_cons (pv 3) (pa_cons (pv 4) pa_nil))))))
    (pss_cons (ps_expr (pe_call G_check_bodies (hr.mono (by omega)) rfl T.m_check_bodies T.F_check_bodies.kp T.b_check_bodies .nil (passes_call (takes_of rfl rfl rfl rfl) (fun _ _ _ _ h => h)) (pa_cons (pv 1) (pa_cons (pv 2) (pa_cons (pv 3) (pa_cons (pv 4) pa_nil))))))
    (pss_cons (ps_fld (pv 0) (pv 1) rfl)
    (pss_cons (ps_fld (pv 0) (pv 2) rfl)
    (pss_cons (ps_fld (pv 0) (pv 3) rfl)
    (pss_cons (ps_fld (pv 0) (pv 4) rfl)
    (pss_cons (ps_fld (pv 0) (pe_call G_names_of (hr.mono (by omega)) rfl T.m_names_of T.F_names_of.kp T.b_names_of .nil pass0 (pa_cons (pv 3) pa_nil)) rfl)
    (pss_one (ps_fld (pv 0) (pe_call G_names_of (hr.mono (by omega)) rfl T.m_names_of T.F_names_of.kp T.b_names_of .nil pass0 (pa_cons (pv 4) pa_nil)) rfl))))))))), ?_⟩
  refine ⟨_, rfl, _, rfl, _, rfl, _, rfl, aw, as, vd, ve, p, 60, rfl, hW, hSo, hDe, hEf, ok, fun H1 h1 => ?_⟩
  refine ⟨_, rfl, _, rfl, _, rfl, _, rfl, aw, as, vd, ve, p, rfl, SqT.same h1 hW, SqT.same h1 hSo, Tn.same h1 hDe, Tn.same h1 hEf, ok, fun mn H2 h2 => ?_, fun e i z => (r e i z).later h1⟩
  have h12 := h1.trans h2
  refine ⟨_, rfl, _, rfl, x, T.c_Program, dx, [], rfl, h12 _ _ hx, T.l_Program, T.n_Program_words, by show 0 < 1000; decide, ?_⟩
  refine ⟨_, rfl, _, rfl, x, T.c_Program, dx, _, rfl, upd_same, T.l_Program, T.n_Program_sources, by show 1 < 1000; decide, ?_⟩
  rw [upd_upd]
  refine ⟨_, rfl, _, rfl, x, T.c_Program, dx, _, rfl, upd_same, T.l_Program, T.n_Program_derived, Nat.lt_of_le_of_lt (m := 2) (Nat.le_of_eq (by kernel_rfl)) (by decide), ?_⟩
  rw [upd_upd]
  refine ⟨_, rfl, _, rfl, x, T.c_Program, dx, _, rfl, upd_same, T.l_Program, T.n_Program_effects, Nat.lt_of_le_of_lt (m := 3) (Nat.le_of_eq (by kernel_rfl)) (by decide), ?_⟩
  rw [upd_upd]
  have d6 := ok.d6
  have e4 := ok.e4
  have hx2 := h12 _ _ hx
  have tk0 : ∀ o : HO, TK H2 (upd H2 x o) := fun o => TK.upd (by rw [hx2]; trivial)
  refine ⟨_, rfl, vd, p.derived, rfl, Tn.keep (tk0 _) (Tn.same h12 hDe), by omega, fun t1 H3 s3 ht1 => ?_⟩
  have hx3 := s3 _ _ upd_same
  refine ⟨_, rfl, x, T.c_Program, dx, _, rfl, hx3, T.l_Program, T.n_Program__derived_names, Nat.lt_of_le_of_lt (m := 4) (Nat.le_of_eq (by kernel_rfl)) (by decide), ?_⟩
  have tk1 : ∀ o : HO, TK H3 (upd H3 x o) := fun o => TK.upd (by rw [hx3]; trivial)
  refine ⟨_, rfl, ve, p.effects, rfl, Tn.keep (tk1 _) (Tn.same s3 (Tn.keep (tk0 _) (Tn.same h12 hEf))), by omega, fun t2 H4 s4 ht2 => ?_⟩
  have hx4 := s4 _ _ upd_same
  refine ⟨_, rfl, x, T.c_Program, dx, _, rfl, hx4, T.l_Program, T.n_Program__effect_names, Nat.lt_of_le_of_lt (m := 5) (Nat.le_of_eq (by kernel_rfl)) (by decide), ?_⟩
  have tk2 : ∀ o : HO, TK H4 (upd H4 x o) := fun o => TK.upd (by rw [hx4]; trivial)
  have sH := made_same (made_same h12 hx s3) hx (by rw [upd_upd]; exact s4)
  rw [progF_put]
  have q2 := q mn t1 t2 _ sH
  rw [upd_upd] at q2
  exact q2 (SqT.tk (tk2 _) (SqT.same s4 (SqT.tk (tk1 _) ht1))) (SqT.tk (tk2 _) ht2)
end
end K77
namespace K77
open PySem PySem.Spec PyProof.Rows L2 Td
theorem ints_lay : ∀ st : List Int, PyData.canLayAll0 (st.map PyData.int) = true ∧ PyData.depthAll (st.map PyData.int) ≤ 1
  | [] => ⟨rfl, by simp [PyData.depthAll]⟩
  | i :: st => by
    obtain ⟨a, b⟩ := ints_lay st
    refine ⟨?_, ?_⟩
    · show ((PyData.int i).canLay0 && PyData.canLayAll0 (st.map PyData.int)) = true
      rw [a]; rfl
    · rw [List.map_cons]
      have : (PyData.int i).depth ≤ 1 := by simp [PyData.depth]
      simp only [PyData.depthAll]; omega
theorem way_lay (a : Way) : a.data.canLay0 = true ∧ a.data.depth ≤ 3 := by
  obtain ⟨h1, h2⟩ := ints_lay a.st
  have h : (PyData.str (kdW a.e)).canLay0 = true := by cases a.e <;> decide +kernel
  refine ⟨?_, ?_⟩
  · show ((PyData.str (kdW a.e)).canLay0 && (true && PyData.canLayAll0 (a.st.map PyData.int))) = true
    rw [h, h1]; rfl
  · unfold Way.data Way.ds
    simp only [PyData.depth, PyData.depthAll]
    omega
theorem chg_lay (c : Bool × Way) : (chgD c).canLay0 = true ∧ (chgD c).depth ≤ 5 := by
  obtain ⟨h1, h2⟩ := way_lay c.2
  have h : (PyData.str (chS c.1)).canLay0 = true := by cases c.1 <;> decide +kernel
  refine ⟨?_, ?_⟩
  · show ((PyData.str (chS c.1)).canLay0 && (c.2.data.canLay0 && true)) = true
    rw [h, h1]; rfl
  · unfold chgD
    simp only [PyData.depth, PyData.depthAll]
    omega
theorem chg_shaped (c : Bool × Way) : SeqAt.shaped (chgD c) = true := by
  obtain ⟨h1, h2⟩ := chg_lay c
  unfold SeqAt.shaped
  rw [h1, Bool.true_and]
  exact decide_eq_true (by omega)
theorem chgs_lay : ∀ L : List (Bool × Way), PyData.canLayAll0 (L.map chgD) = true ∧ PyData.depthAll (L.map chgD) ≤ 5
  | [] => ⟨rfl, by simp [PyData.depthAll]⟩
  | c :: L => by
    obtain ⟨a, b⟩ := chgs_lay L
    obtain ⟨h1, h2⟩ := chg_lay c
    refine ⟨?_, ?_⟩
    · show ((chgD c).canLay0 && PyData.canLayAll0 (L.map chgD)) = true
      rw [a, h1]; rfl
    · rw [List.map_cons]
      simp only [PyData.depthAll]; omega
theorem chgs_shaped (L : List (Bool × Way)) : SeqAt.shaped (.list (L.map chgD)) = true := by
  obtain ⟨h1, h2⟩ := chgs_lay L
  unfold SeqAt.shaped
  simp only [PyData.canLay0, PyData.depth, h1, Bool.true_and]
  exact decide_eq_true (by omega)
theorem ints_inj : ∀ {a b : List Int}, PyData.eqvAll (a.map PyData.int) (b.map PyData.int) = true → a = b
  | [], [], _ => rfl
  | [], _ :: _, h => by cases h
  | _ :: _, [], h => by cases h
  | x :: a, y :: b, h => by
    rw [List.map_cons, List.map_cons] at h
    simp only [PyData.eqvAll, PyData.eqv, Bool.and_eq_true, beq_iff_eq] at h
    rw [h.1, ints_inj h.2]
theorem way_inj {a b : Way} (h : PyData.eqv a.data b.data = true) : a = b := by
  unfold Way.data Way.ds at h
  simp only [PyData.eqvAll, PyData.eqv, Bool.and_eq_true, beq_iff_eq] at h
  obtain ⟨h1, h2, h3⟩ := h
  have g1 := kdW_inj h1
  have g2 := Int.ofNat_inj.mp h2
  have g3 := ints_inj h3
  cases a
  cases b
  rw [Way.mk.injEq]
  exact ⟨g1, g2, g3⟩
theorem chg_inj {a b : Bool × Way} (h : PyData.eqv (chgD a) (chgD b) = true) : a = b := by
  unfold chgD at h
  simp only [PyData.eqvAll, PyData.eqv, Bool.and_eq_true, Bool.and_true, beq_iff_eq] at h
  refine Prod.ext ?_ (way_inj h.2)
  have h1 := h.1
  cases ha : a.1 <;> cases hb : b.1 <;> rw [ha, hb] at h1 <;> first | rfl | (exact absurd h1 (by decide +kernel))
theorem hasD_chg (c : Bool × Way) (L : List (Bool × Way)) : hasD (chgD c) (L.map chgD) = decide (c ∈ L) := by
  rw [Bool.eq_iff_iff, decide_eq_true_eq]
  unfold hasD
  rw [List.any_eq_true]
  constructor
  · rintro ⟨d, hd, e⟩
    obtain ⟨x, hx, rfl⟩ := List.mem_map.mp hd
    rw [← chg_inj e]
    exact hx
  · intro h
    exact ⟨chgD c, List.mem_map_of_mem h, SeqAt.eqv_refl _ (chg_lay c).1⟩
theorem nd_atB {α : Type} {l : List α} (nd : l.Nodup) {i j : Nat} {x : α} (h1 : l[i]? = some x) (h2 : l[j]? = some x) : i = j := by
  obtain ⟨a1, b1⟩ := List.getElem?_eq_some_iff.mp h1
  obtain ⟨a2, b2⟩ := List.getElem?_eq_some_iff.mp h2
  have far := List.pairwise_iff_getElem.mp nd
  rcases Nat.lt_trichotomy i j with h | h | h
  · exact absurd (b1.trans b2.symm) (far i j a1 a2 h)
  · exact h
  · exact absurd (b2.trans b1.symm) (far j i a2 a1 h)
theorem lim60 {e : Bool} {rs : List Td.Row} (h : cnts rs ≤ 59) : Lim e 60 rs := ⟨by omega, rs, [], by simp, by omega, .inl rfl⟩
section
variable {p : PP} {m : Nat} {L : List (Bool × Way)}
theorem chd_ok60 (ok : p.Ok m) (h : ChOk p L) (hm : m + L.length ≤ 40) (hm2 : m ≤ 24) : (Chd p L).Ok 60 := by
  have nd : (Chd p L).names = p.names := by unfold PP.names Chd; rw [chB_names, chB_names]
  refine ⟨ok.w2, ok.w4, ok.s1, ok.s4, ?_, ?_, ok.wn, by rw [nd]; exact ok.nn, okDer_of fun i q hq => ?_, okEff_of fun i q hq => ?_⟩
  · have := ok.d6; unfold Chd chBodies; rw [List.length_mapIdx]; exact this
  · have := ok.e4; unfold Chd chBodies; rw [List.length_mapIdx]; exact this
  · obtain ⟨r, hr, rfl⟩ := chB_get hq
    obtain ⟨o1, o2⟩ := okDer_get ok.der hr
    have own := h.own (e := false) (i := i) (q := r) hr
    have ol := ownC_len L false i
    have c := chRows_ok own o1 (by omega) (.inr fun c hc => by
      unfold ownC at hc
      obtain ⟨d, hd, rfl⟩ := List.mem_map.mp hc
      obtain ⟨h1, h2⟩ := List.mem_filter.mp hd
      rw [Bool.and_eq_true, decide_eq_true_eq] at h2
      cases e : d.1 with
      | false => rfl
      | true =>
        have := h.eff d h1 e
        rw [h2.1] at this
        cases this)
    refine ⟨?_, lim60 (by have := c.2; show cnts (chRows r.2 _) ≤ 59; omega)⟩
    have e : ((Chd p L).derived.take i).map (·.1) = (p.derived.take i).map (·.1) := by
      show ((chBodies L false p.derived).take i).map (·.1) = _
      rw [List.map_take, List.map_take, chB_names]
    rw [e]
    exact c.1
  · obtain ⟨r, hr, rfl⟩ := chB_get hq
    obtain ⟨o1, o2⟩ := okEff_get ok.eff hr
    have own := h.own (e := true) (i := i) (q := r) hr
    have ol := ownC_len L true i
    have c := chRows_ok own o1 (by omega) (.inl rfl)
    refine ⟨?_, lim60 (by have := c.2; show cnts (chRows r.2 _) ≤ 59; omega)⟩
    have e : (Chd p L).cells = p.cells := by unfold PP.cells Chd; rw [chB_names]
    rw [e]
    exact c.1
end
theorem body_okM {p : PP} {m : Nat} {L : List (Bool × Way)} (ok : p.Ok m) (hm : m ≤ 24) (h : ChOk p L) {e : Bool} {i : Nat} {q : Str × List Td.Row} (hq : (bodiesOf p e)[i]? = some q) : ∃ S, BodOk L e i q S := by
  have own := h.own hq
  have hc := bodies_cnt ok hq
  cases e with
  | true => exact ⟨_, (okEff_get ok.eff hq).1, by omega, own, .inl rfl⟩
  | false =>
    refine ⟨_, (okDer_get ok.der hq).1, by omega, own, .inr fun c hc => ?_⟩
    unfold ownC at hc
    obtain ⟨d, hd, rfl⟩ := List.mem_map.mp hc
    obtain ⟨h1, h2⟩ := List.mem_filter.mp hd
    rw [Bool.and_eq_true, decide_eq_true_eq] at h2
    cases e : d.1 with
    | false => rfl
    | true =>
      have := h.eff d h1 e
      rw [h2.1] at this
      cases this
/-- data at a place of a list of changes is wrong -/
def wrongIt (p : PP) (I : List (PyData × Option (Str × Option (Bool × Int × List Int)))) (i : Nat) : Bool := match I[i]? with
  | some c => !chgOk p c.2 || hasD c.1 ((I.take i).map (·.1))
  | none => false
def spCheckD (K : PySem.W.Frag) (CP CI : Addr) : Sp := fun vs H Q E => ∃ (pa l : Addr) (cs : List V) (p : PP) (m : Nat) (I : List (PyData × Option (Str × Option (Bool × Int × List Int)))), vs = [.ref pa, .ref l, .int (I.length : Nat)] ∧ ProgAt K H CP pa p ∧ p.Ok m ∧ m ≤ 16 ∧ H l = some (.lst cs) ∧ DpAll K H cs (I.map (·.1)) ∧ I.length ≤ 100 ∧
  (∀ c ∈ I, CF c.1 c.2 ∧ c.1.canLay0 = true ∧ c.1.depth ≤ 40) ∧ ((∀ i, wrongIt p I i = false) → ∀ H', Same H H' → Q .non H') ∧ (∀ i : Nat, (∀ j, j < i → wrongIt p I j = false) → wrongIt p I i = true → Rz CI "index" (.int (i : Nat)) H E)
theorem lays_all : ∀ {ds : List PyData}, (∀ d ∈ ds, d.canLay0 = true ∧ d.depth ≤ 40) → PyData.canLayAll0 ds = true ∧ PyData.depthAll ds ≤ 40
  | [], _ => ⟨rfl, by simp [PyData.depthAll]⟩
  | d :: ds, h => by
    obtain ⟨a, b⟩ := lays_all fun x hx => h x (List.mem_cons_of_mem _ hx)
    obtain ⟨h1, h2⟩ := h d List.mem_cons_self
    refine ⟨?_, ?_⟩
    · show (d.canLay0 && PyData.canLayAll0 ds) = true
      rw [a, h1]; rfl
    · simp only [PyData.depthAll]; omega
theorem dp_tk {K : PySem.W.Frag} {H : Hp} : ∀ {xs : List V} {ds : List PyData} (k : Nat), DpAll K H xs ds → DpAll K H (xs.take k) (ds.take k)
  | _, _, 0, _ => .nil
  | _, _, k + 1, .nil => .nil
  | _, _, k + 1, .cons a b => .cons a (dp_tk k b)
section
variable {P : Program} {w : World} {K : PySem.W.Frag} {mg : Str → Option Value} {base : Heap}
theorem ok_InvalidChange (T : Tops w K mg) : FnOk P w K mg base CX0 1 T.a_InvalidChange_init T.d_InvalidChange_init ["self", "index"] (spExc K T.c_InvalidChange "index") := by
  refine T.F_InvalidChange_init.ok sc_InvalidChange_init (fun vs H Q E h => ?_) (fun cdv A outer s H vs Q E hr h => ?_)
  · obtain ⟨a, y, rfl, _⟩ := h
    rfl
  obtain ⟨a, y, rfl, ha, q⟩ := h
  exact ⟨_, (pss_one (ps_ost (pv 0) (pv 1))), _, rfl, _, rfl, a, T.c_InvalidChange, rfl, T.x_InvalidChange, T.n_InvalidChange_index, .inl ⟨ha, fun dx h1 h2 => q dx _ h1 h2 rfl⟩⟩
theorem ok_check_chD (T : Tops w K mg) (G_is_change : FnOk P w K mg base CX0 6 T.a_is_change T.d_is_change ["program", "value"] (spIsChD K T.c_Program))
    (G_InvalidChange_init : FnOk P w K mg base CX0 1 T.a_InvalidChange_init T.d_InvalidChange_init ["self", "index"] (spExc K T.c_InvalidChange "index")) :
    FnOk P w K mg base (L2.CX P w) 7 T.a_check_changes T.d_check_changes ["program", "changes", "most"] (spCheckD K T.c_Program T.c_InvalidChange) := by
  refine T.F_check_changes.okX sc_check_changes (fun vs H Q E h => ?_) (fun cdv A outer s H vs Q E hr h => ?_)
  · obtain ⟨pa, l, cs, p, m, I, rfl, _⟩ := h
    rfl
  obtain ⟨pa, l, cs, p, m, I, rfl, hP, ok, hm, hl, hD, hI, hcf, q, bad⟩ := h
  have cl : cs.length = I.length := by have := dp_len hD; rwa [List.length_map] at this
  refine ⟨_, (pss_one (ps_for (passes_of rfl) rfl (pi_enum rfl T.z_enumerate (pa_cons (pv 1) pa_nil)) (pg_tup rfl (pgs_cons (pg_name (i := 3) sc_check_changes.nd rfl (Or.inl rfl)) (pgs_cons (pg_name (i := 4) sc_check_changes.nd rfl (Or.inl rfl)) pgs_nil))) (pss_one (ps_if (PW.pt (pw_or (pt_cmpR op_ge (pv 3) (pv 2) (nomark _)) (pw_or (pt_not (pt_val (pe_call G_is_change (hr.mono (by omega)) rfl T.m_is_change T.F_is_change.kp T.b_is_change .nil pass0 (pa_cons (pv 0) (pa_cons (pv 4) pa_nil))))) (pw_or1 (pt_cmpR (op_inDL (units65 hr)) (pv 4) (pe_slice sl_list (pv 1) po_none (po_some (pv 3))) (by rfl)))))) (pss_one (ps_raise rfl (takes_of rfl rfl rfl rfl) (pmk_oex T.x_InvalidChange T.xi_InvalidChange T.xt_InvalidChange G_InvalidChange_init (hr.mono (by omega)) T.b_InvalidChange_init .nil pass0 rfl T.m_InvalidChange (pa_cons (pv 3) pa_nil)))) pss_nil)))), ?_⟩
  refine ⟨_, rfl, l, _, rfl, SqL.of hl, for_enumL (K := K) (l := l) (zs := cs) (fun i σ H' => ∃ v3 v4 : Option V, σ = [some (.ref pa), some (.ref l), some (.int (I.length : Nat)), v3, v4] ∧ Same H H' ∧ ∀ j, j < i → wrongIt p I j = false)
    ⟨none, none, rfl, Same.refl _, fun j hj => absurd hj (Nat.not_lt_zero j)⟩ (fun i σ H' _ ⟨_, _, _, z, _⟩ => SqL.of (z _ _ hl)) ?_ ?_⟩
  · rintro i x σ H1 t hx ⟨v3, v4, rfl, s1, fine⟩ ht
    have il : i < I.length := by rw [← cl]; exact (List.getElem?_eq_some_iff.mp hx).1
    obtain ⟨c, hc⟩ : ∃ c, I[i]? = some c := ⟨_, List.getElem?_eq_getElem il⟩
    have cm := List.mem_of_getElem? hc
    obtain ⟨cf, lay, dep⟩ := hcf c cm
    obtain ⟨d, hd1, hd2⟩ := DpAll.get hD hx
    rw [List.getElem?_map, hc] at hd1
    obtain rfl := Option.some.inj hd1
    have z1 := Same.new ht (.tup [.int (i : Nat), x])
    have s2 := s1.trans z1
    have ew : wrongIt p I i = (!chgOk p c.2 || hasD c.1 ((I.take i).map (·.1))) := by unfold wrongIt; rw [hc]
    refine ⟨t, _, rfl, SqT.of upd_same, rfl, _, _, rfl, _, _, rfl, rfl, ?_⟩
    generalize upd H1 t (.tup [.int (i : Nat), x]) = H2 at s2
    refine ⟨_, rfl, _, rfl, _, _, rfl, rfl, _, rfl, if_false_of (decide_eq_false (by omega)) ?_⟩
    refine ⟨_, rfl, _, rfl, pa, x, c.1, p, m, c.2, rfl, hP.same s2, ok, hm, Dp.same s2 hd2, cf, fun H3 s3 => ⟨_, rfl, ?_⟩⟩
    have s4 := s2.trans s3
    cases hk : chgOk p c.2 with
    | false =>
      rw [hk] at ew
      exact if_true_of rfl ⟨_, rfl, made_one ((bad i fine ew).later s4)⟩
    | true =>
      rw [hk] at ew
      have ew2 : wrongIt p I i = hasD c.1 ((I.take i).map (·.1)) := ew
      refine if_false_of rfl ?_
      refine ⟨_, rfl, _, rfl, ?_⟩
      dsimp only [tNoPart]
      refine ⟨_, rfl, (i : Nat), rfl, l, cs, rfl, SqL.of (s4 _ _ hl), fun g hg => ?_⟩
      rw [cut_to _ i (by omega)]
      have z5 := Same.new hg (.lst (cs.take i))
      have hCt : DpAll K (upd H3 g (.lst (cs.take i))) (cs.take i) ((I.take i).map (·.1)) := by
        rw [List.map_take]
        exact dp_tk i (DpAll.same (s4.trans z5) hD)
      obtain ⟨la, da⟩ := lays_all (ds := (I.take i).map (·.1)) fun d hd => by
        obtain ⟨y, hy, rfl⟩ := List.mem_map.mp hd
        obtain ⟨_, a, b⟩ := hcf y (List.mem_of_mem_take hy)
        exact ⟨a, b⟩
      have shl : SeqAt.shaped (.list ((I.take i).map (·.1))) = true := by
        unfold SeqAt.shaped
        simp only [PyData.canLay0, PyData.depth, la, Bool.true_and]
        exact decide_eq_true (by omega)
      have shd : SeqAt.shaped c.1 = true := by
        unfold SeqAt.shaped
        rw [lay, Bool.true_and]
        exact decide_eq_true (by omega)
      refine ⟨c.1, _, Dp.same (s4.trans z5) hd2, .lst (SqL.of upd_same) hCt, shd, shl, _, rfl, ?_⟩
      cases hh : hasD c.1 ((I.take i).map (·.1)) with
      | true =>
        refine if_true_of rfl ?_
        exact ⟨_, rfl, made_one ((bad i fine (ew2.trans hh)).later (s4.trans z5))⟩
      | false =>
        refine if_false_of rfl ?_
        refine ⟨_, _, rfl, s4.trans z5, fun j hj => ?_⟩
        by_cases e : j = i
        · rw [e]; exact ew2.trans hh
        · exact fine j (by omega)
  · rintro σ H1 ⟨v3, v4, rfl, s1, fine⟩
    refine q (fun j => ?_) H1 s1
    by_cases hj : j < cs.length
    · exact fine j hj
    · unfold wrongIt
      rw [List.getElem?_eq_none (by omega)]
end
end K77
namespace K77
open PySem PySem.Spec PyProof.Rows L2 Td
theorem left_map (st : List Int) : (st.map Sum.inl).map ibD = st.map PyData.int ∧ ((st.map Sum.inl : List (Sum Int Bool)).all isL) = true ∧ lefts (st.map Sum.inl) = st := by
  induction st with
  | nil => exact ⟨rfl, rfl, rfl⟩
  | cons i st ih =>
    obtain ⟨a, b, c⟩ := ih
    refine ⟨?_, ?_, ?_⟩
    · show PyData.int i :: (st.map Sum.inl).map ibD = PyData.int i :: st.map PyData.int
      rw [a]
    · show (true && (st.map Sum.inl : List (Sum Int Bool)).all isL) = true
      rw [b]; rfl
    · show i :: lefts (st.map Sum.inl) = i :: st
      rw [c]
theorem way_pf {a : Way} (h : a.st ≠ []) (hl : a.st.length ≤ 60) : PF a.data (some (a.e, ((a.i : Nat) : Int), a.st)) := by
  obtain ⟨h1, h2, h3⟩ := left_map a.st
  have := PF.ib a.e ((a.i : Nat) : Int) (L := a.st.map Sum.inl) (fun z => h (List.map_eq_nil_iff.mp z)) (by rw [List.length_map]; exact hl)
  rw [h1] at this
  unfold pathOf at this
  rw [h2, if_pos rfl, h3] at this
  exact this
def clsW (c : Bool × Way) : Option (Str × Option (Bool × Int × List Int)) := some (chS c.1, some (c.2.e, ((c.2.i : Nat) : Int), c.2.st))
theorem chg_cf {c : Bool × Way} (h : c.2.st ≠ []) (hl : c.2.st.length ≤ 60) : CF (chgD c) (clsW c) := CF.two (way_pf h hl)
theorem chg_right {p : PP} {L : List (Bool × Way)} (h : ChOk p L) {c : Bool × Way} (hc : c ∈ L) : chgOk p (clsW c) = true ∧ c.2.st ≠ [] := by
  obtain ⟨q, x, s, h1, h2⟩ := h.at_ c hc
  have hne := rowAt_ne h2
  refine ⟨?_, hne⟩
  have er : rowP p (some (c.2.e, ((c.2.i : Nat) : Int), c.2.st)) = some (.rd false x s) := by
    show ((getI (bodiesOf p c.2.e) ((c.2.i : Nat) : Int)).bind fun q => rowAt q.2 c.2.st) = _
    rw [getI_nat, h1]
    exact h2
  show (isRdO (rowP p (some (c.2.e, ((c.2.i : Nat) : Int), c.2.st))) && (decide (chS c.1 = "early") || (decide (chS c.1 = "peek") && c.2.e))) = true
  rw [er]
  cases e : c.1 with
  | false => show (true && (decide (("early" : Str) = "early") || _)) = true; rw [decide_eq_true rfl]; rfl
  | true =>
    rw [h.eff c hc e]
    show (true && (decide (("peek" : Str) = "early") || (decide (("peek" : Str) = "peek") && true))) = true
    rw [decide_eq_true (rfl : ("peek" : Str) = "peek")]
    simp
def spChangedL (K : PySem.W.Frag) (CP CI : Addr) : Sp := fun vs H Q E => ∃ (pa l : Addr) (cs : List V) (p : PP) (m : Nat) (L : List (Bool × Way)), vs = [.ref pa, .ref l] ∧ ProgAt K H CP pa p ∧ H l = some (.lst cs) ∧ TnAll K H cs (L.map chgD) ∧ p.Ok m ∧ m ≤ 16 ∧ L.length ≤ 20 ∧ ChOk p L ∧
  (manyOf (Chd p L) = none → ∀ (x : Addr) H', Same H H' → H x = none → ProgAt K H' CP x (Chd p L) → Q (.ref x) H') ∧ (∀ e i, manyOf (Chd p L) = some (e, i) → RzIP K CI H E "many" (.tuple [.str (kdS e), .int (i : Nat)]))
def spChangedT (K : PySem.W.Frag) (CP CI : Addr) : Sp := fun vs H Q E => ∃ (pa l : Addr) (cs : List V) (p : PP) (m : Nat) (L : List (Bool × Way)), vs = [.ref pa, .ref l] ∧ ProgAt K H CP pa p ∧ SqT K H l cs ∧ TnAll K H cs (L.map chgD) ∧ p.Ok m ∧ m ≤ 16 ∧ L.length ≤ 20 ∧ ChOk p L ∧
  (manyOf (Chd p L) = none → ∀ (x : Addr) H', Same H H' → H x = none → ProgAt K H' CP x (Chd p L) → Q (.ref x) H') ∧ (∀ e i, manyOf (Chd p L) = some (e, i) → RzIP K CI H E "many" (.tuple [.str (kdS e), .int (i : Nat)]))
def spCheckT (K : PySem.W.Frag) (CP : Addr) : Sp := fun vs H Q _ => ∃ (pa l : Addr) (cs : List V) (p : PP) (m : Nat) (L : List (Bool × Way)), vs = [.ref pa, .ref l, .int (L.length : Nat)] ∧ ProgAt K H CP pa p ∧ p.Ok m ∧ m ≤ 16 ∧ SqT K H l cs ∧ TnAll K H cs (L.map chgD) ∧ L.length ≤ 20 ∧ ChOk p L ∧ L.Nodup ∧ (∀ c ∈ L, c.2.st.length ≤ 60) ∧ ∀ H', Same H H' → Q .non H'
section
variable {P : Program} {w : World} {K : PySem.W.Frag} {mg : Str → Option Value} {base : Heap}
theorem ok_changedML (T : Tops w K mg) (G_changed_bodies : FnOk P w K mg base CX0 6 T.a_changed_bodies T.d_changed_bodies ["kind", "pairs", "changes"] (spChBod K))
    (G_Program_init : FnOk P w K mg base (L2.CX P w) 10 T.a_Program_init T.d_Program_init ["self", "words", "sources", "derived", "effects"] (spProgM K T.c_Program T.c_InvalidProgram)) :
    FnOk P w K mg base (L2.CX P w) 12 T.a_changed T.d_changed ["program", "changes"] (spChangedL K T.c_Program T.c_InvalidProgram) := by
  refine T.F_changed.okX sc_changed (fun vs H Q E h => ?_) (fun cdv A outer s H vs Q E hr h => ?_)
  · obtain ⟨pa, l, cs, p, m, L, rfl, _⟩ := h
    rfl
  obtain ⟨pa, l, cs, p, m, L, rfl, hP, hl, hC, ok, hm, hL, hch, q, bad⟩ := h
  obtain ⟨dx, aw, as, vd, ve, ⟨dn, en, e, hdn, hen⟩, h1, h2, h3, h4⟩ := hP.ex
  have ok2 := chd_ok60 ok hch (by omega) (by omega)
  have d6 := ok.d6
  have e4 := ok.e4
  refine ⟨_, (pss_cons (ps_set (i := 2) sc_changed.nd rfl (Or.inl rfl) (pe_call G_changed_bodies (hr.mono (by omega)) rfl T.m_changed_bodies T.F_changed_bodies.kp T.b_changed_bodies .nil pass0 (pa_cons pe_str (pa_cons (pe_fld (pv 0) rfl) (pa_cons (pv 1) pa_nil)))))
    (pss_cons (ps_set (i := 3) sc_changed.nd rfl (Or.inl rfl) (pe_call G_changed_bodies (hr.mono (by omega)) rfl T.m_changed_bodies T.F_changed_bodies.kp T.b_changed_bodies .nil pass0 (pa_cons pe_str (pa_cons (pe_fld (pv 0) rfl) (pa_cons (pv 1) pa_nil)))))
    (pss_one (ps_ret (pe_make T.k_Program G_Program_init (hr.mono (by omega)) rfl T.m_Program T.b_Program_init .nil (passes_call (takes_of rfl rfl rfl rfl) (fun _ _ _ _ h => h)) (pa_cons (pe_fld (pv 0) rfl) (pa_cons (pe_fld (pv 0) rfl) (pa_cons (pv 2) (pa_cons (pv 3) pa_nil))))))))), ?_⟩
  refine ⟨_, rfl, pa, _, dx, _, _, rfl, e, T.l_Program, T.n_Program_derived, progF_derived .., _, rfl, vd, l, cs, false, L, p.derived, rfl, h3, hl, hC, by omega, by omega, fun i q hq => body_okM ok (by omega) hch (e := false) hq, fun x1 H1 s1 hx1 => ?_⟩
  have e1 := s1 _ _ e
  refine ⟨_, rfl, pa, _, dx, _, _, rfl, e1, T.l_Program, T.n_Program_effects, progF_effects .., _, rfl, ve, l, cs, true, L, p.effects, rfl, Tn.same s1 h4, s1 _ _ hl, TnAll.keep (TK.of_same s1) hC, by omega, by omega, fun i q hq => body_okM ok (by omega) hch (e := true) hq, fun x2 H2 s2 hx2 => ?_⟩
  have s12 := s1.trans s2
  have e2 := s12 _ _ e
  refine ⟨_, rfl, pa, _, dx, _, _, rfl, e2, T.l_Program, T.n_Program_words, progF_words .., _, rfl, pa, _, dx, _, _, rfl, e2, T.l_Program, T.n_Program_sources, progF_sources .., _, rfl, _, rfl, fun oa dx2 hx hdx hne => ?_⟩
  have sx : Same H2 (upd (upd H2 dx2 (.own oa)) oa (.ins T.c_Program dx2 [])) := (Same.new hdx _).trans (Same.new (by rw [upd_ne (Ne.symm hne)]; exact hx) _)
  have s02 := s12.trans sx
  refine ⟨oa, dx2, aw, as, x1, x2, Chd p L, rfl, upd_same, SqT.same s02 h1, SqT.same s02 h2, Tn.same (s2.trans sx) hx1, Tn.same sx hx2, ok2, fun mn dn2 en2 H3 s3 hdn2 hen2 => ⟨rfl, ?_⟩, fun e i z => (bad e i z).later s02⟩
  have fin : Same H2 (upd H3 oa (.ins T.c_Program dx2 (progF aw as x1 x2 dn2 en2))) := own_same (sx.trans s3) hx
  have f0 : H oa = none := free_of' s12 hx
  exact q mn oa _ (s12.trans fin) f0 ⟨dx2, aw, as, x1, x2, ⟨dn2, en2, upd_same, hdn2, hen2⟩, SqT.same (s12.trans fin) h1, SqT.same (s12.trans fin) h2, Tn.same (s2.trans fin) hx1, Tn.same fin hx2⟩
theorem ok_changedMT (T : Tops w K mg) (G_changed_bodies : FnOk P w K mg base CX0 6 T.a_changed_bodies T.d_changed_bodies ["kind", "pairs", "changes"] (spChBodT K))
    (G_Program_init : FnOk P w K mg base (L2.CX P w) 10 T.a_Program_init T.d_Program_init ["self", "words", "sources", "derived", "effects"] (spProgM K T.c_Program T.c_InvalidProgram)) :
    FnOk P w K mg base (L2.CX P w) 12 T.a_changed T.d_changed ["program", "changes"] (spChangedT K T.c_Program T.c_InvalidProgram) := by
  refine T.F_changed.okX sc_changed (fun vs H Q E h => ?_) (fun cdv A outer s H vs Q E hr h => ?_)
  · obtain ⟨pa, l, cs, p, m, L, rfl, _⟩ := h
    rfl
  obtain ⟨pa, l, cs, p, m, L, rfl, hP, hl, hC, ok, hm, hL, hch, q, bad⟩ := h
  obtain ⟨dx, aw, as, vd, ve, ⟨dn, en, e, hdn, hen⟩, h1, h2, h3, h4⟩ := hP.ex
  have ok2 := chd_ok60 ok hch (by omega) (by omega)
  have d6 := ok.d6
  have e4 := ok.e4
  refine ⟨_, (pss_cons (ps_set (i := 2) sc_changed.nd rfl (Or.inl rfl) (pe_call G_changed_bodies (hr.mono (by omega)) rfl T.m_changed_bodies T.F_changed_bodies.kp T.b_changed_bodies .nil pass0 (pa_cons pe_str (pa_cons (pe_fld (pv 0) rfl) (pa_cons (pv 1) pa_nil)))))
    (pss_cons (ps_set (i := 3) sc_changed.nd rfl (Or.inl rfl) (pe_call G_changed_bodies (hr.mono (by omega)) rfl T.m_changed_bodies T.F_changed_bodies.kp T.b_changed_bodies .nil pass0 (pa_cons pe_str (pa_cons (pe_fld (pv 0) rfl) (pa_cons (pv 1) pa_nil)))))
    (pss_one (ps_ret (pe_make T.k_Program G_Program_init (hr.mono (by omega)) rfl T.m_Program T.b_Program_init .nil (passes_call (takes_of rfl rfl rfl rfl) (fun _ _ _ _ h => h)) (pa_cons (pe_fld (pv 0) rfl) (pa_cons (pe_fld (pv 0) rfl) (pa_cons (pv 2) (pa_cons (pv 3) pa_nil))))))))), ?_⟩
  refine ⟨_, rfl, pa, _, dx, _, _, rfl, e, T.l_Program, T.n_Program_derived, progF_derived .., _, rfl, vd, l, cs, false, L, p.derived, rfl, h3, hl, hC, by omega, by omega, fun i q hq => body_okM ok (by omega) hch (e := false) hq, fun x1 H1 s1 hx1 => ?_⟩
  have e1 := s1 _ _ e
  refine ⟨_, rfl, pa, _, dx, _, _, rfl, e1, T.l_Program, T.n_Program_effects, progF_effects .., _, rfl, ve, l, cs, true, L, p.effects, rfl, Tn.same s1 h4, SqT.same s1 hl, TnAll.keep (TK.of_same s1) hC, by omega, by omega, fun i q hq => body_okM ok (by omega) hch (e := true) hq, fun x2 H2 s2 hx2 => ?_⟩
  have s12 := s1.trans s2
  have e2 := s12 _ _ e
  refine ⟨_, rfl, pa, _, dx, _, _, rfl, e2, T.l_Program, T.n_Program_words, progF_words .., _, rfl, pa, _, dx, _, _, rfl, e2, T.l_Program, T.n_Program_sources, progF_sources .., _, rfl, _, rfl, fun oa dx2 hx hdx hne => ?_⟩
  have sx : Same H2 (upd (upd H2 dx2 (.own oa)) oa (.ins T.c_Program dx2 [])) := (Same.new hdx _).trans (Same.new (by rw [upd_ne (Ne.symm hne)]; exact hx) _)
  have s02 := s12.trans sx
  refine ⟨oa, dx2, aw, as, x1, x2, Chd p L, rfl, upd_same, SqT.same s02 h1, SqT.same s02 h2, Tn.same (s2.trans sx) hx1, Tn.same sx hx2, ok2, fun mn dn2 en2 H3 s3 hdn2 hen2 => ⟨rfl, ?_⟩, fun e i z => (bad e i z).later s02⟩
  have fin : Same H2 (upd H3 oa (.ins T.c_Program dx2 (progF aw as x1 x2 dn2 en2))) := own_same (sx.trans s3) hx
  have f0 : H oa = none := free_of' s12 hx
  exact q mn oa _ (s12.trans fin) f0 ⟨dx2, aw, as, x1, x2, ⟨dn2, en2, upd_same, hdn2, hen2⟩, SqT.same (s12.trans fin) h1, SqT.same (s12.trans fin) h2, Tn.same (s2.trans fin) hx1, Tn.same fin hx2⟩
theorem ok_check_T (T : Tops w K mg) (G_is_change : FnOk P w K mg base CX0 6 T.a_is_change T.d_is_change ["program", "value"] (spIsChD K T.c_Program)) :
    FnOk P w K mg base CX0 7 T.a_check_changes T.d_check_changes ["program", "changes", "most"] (spCheckT K T.c_Program) := by
  refine T.F_check_changes.ok sc_check_changes (fun vs H Q E h => ?_) (fun cdv A outer s H vs Q E hr h => ?_)
  · obtain ⟨pa, l, cs, p, m, L, rfl, _⟩ := h
    rfl
  obtain ⟨pa, l, cs, p, m, L, rfl, hP, ok, hm, hl, hC, hL, hch, nd, hst, q⟩ := h
  have cl : cs.length = L.length := by have := hC.length; rwa [List.length_map] at this
  refine ⟨_, (pss_one (ps_for PassesOwn.never rfl (pi_enumT rfl T.z_enumerate (pa_cons (pv 1) pa_nil)) (pg_tup rfl (pgs_cons (pg_name (i := 3) sc_check_changes.nd rfl (Or.inl rfl)) (pgs_cons (pg_name (i := 4) sc_check_changes.nd rfl (Or.inl rfl)) pgs_nil))) (pss_one (ps_if (PW.pt (pw_or (pt_cmpR op_ge (pv 3) (pv 2) (nomark _)) (pw_or (pt_not (pt_val (pe_call G_is_change (hr.mono (by omega)) rfl T.m_is_change T.F_is_change.kp T.b_is_change .nil pass0 (pa_cons (pv 0) (pa_cons (pv 4) pa_nil))))) (pw_or1 (pt_cmpR (op_inDT (units65 hr)) (pv 4) (pe_slice sl_tupA (pv 1) po_none (po_some (pv 3))) (by rfl)))))) (pss_one ps_never) pss_nil)))), ?_⟩
  refine ⟨_, rfl, l, _, rfl, hl, for_enumT (K := K) (a := l) (xs := cs) (fun i σ H' => ∃ v3 v4 : Option V, σ = [some (.ref pa), some (.ref l), some (.int (L.length : Nat)), v3, v4] ∧ Same H H')
    ⟨none, none, rfl, Same.refl _⟩ (fun i σ H' _ ⟨_, _, _, z⟩ => SqT.same z hl) ?_ ?_⟩
  · rintro i x σ H1 t hx ⟨v3, v4, rfl, s1⟩ ht
    have il : i < L.length := by rw [← cl]; exact (List.getElem?_eq_some_iff.mp hx).1
    obtain ⟨c, hc⟩ : ∃ c, L[i]? = some c := ⟨_, List.getElem?_eq_getElem il⟩
    obtain ⟨d, hd1, hd2⟩ := TnAll.get hC hx
    rw [List.getElem?_map, hc] at hd1
    obtain rfl := Option.some.inj hd1
    have cm := List.mem_of_getElem? hc
    obtain ⟨rt, ne⟩ := chg_right hch cm
    have z1 := Same.new ht (.tup [.int (i : Nat), x])
    have s2 := s1.trans z1
    refine ⟨t, _, rfl, SqT.of upd_same, rfl, _, _, rfl, _, _, rfl, rfl, ?_⟩
    generalize upd H1 t (.tup [.int (i : Nat), x]) = H2 at s2
    refine ⟨_, rfl, _, rfl, _, _, rfl, rfl, _, rfl, if_false_of (decide_eq_false (by omega)) ?_⟩
    refine ⟨_, rfl, _, rfl, pa, x, chgD c, p, m, clsW c, rfl, hP.same s2, ok, hm, Tn.dp (Tn.same s2 hd2), chg_cf ne (hst c cm), fun H3 s3 => ⟨_, rfl, ?_⟩⟩
    have s4 := s2.trans s3
    rw [rt]
    refine if_false_of rfl ?_
    refine ⟨_, rfl, _, rfl, ?_⟩
    dsimp only [tNoPart]
    refine ⟨_, rfl, (i : Nat), rfl, sl_all (SqT.same s4 hl) fun g H5 s5 hg => ?_⟩
    rw [cut_to _ i (by omega)] at hg
    have hCt : TnAll K H5 (cs.take i) ((L.take i).map chgD) := by
      rw [List.map_take]
      exact tn_tk i (TnAll.keep (TK.of_same (s4.trans s5)) hC)
    have sht : SeqAt.shaped (.tuple ((L.take i).map chgD)) = true := by
      obtain ⟨h1, h2⟩ := chgs_lay (L.take i)
      unfold SeqAt.shaped
      simp only [PyData.canLay0, PyData.depth, h1, Bool.true_and]
      exact decide_eq_true (by omega)
    refine ⟨chgD c, (L.take i).map chgD, Tn.dp (Tn.same (s4.trans s5) hd2), .tup hg (TnAll.dp hCt), chg_shaped c, sht, _, rfl, ?_⟩
    refine if_false_of ?_ ⟨_, _, rfl, s4.trans s5⟩
    show hasD (chgD c) ((L.take i).map chgD) = false
    rw [hasD_chg, decide_eq_false]
    intro hmm
    obtain ⟨k, hk⟩ := List.getElem?_of_mem hmm
    have ki : k < i := by
      have := (List.getElem?_eq_some_iff.mp hk).1
      rw [List.length_take] at this
      omega
    rw [List.getElem?_take_of_lt ki] at hk
    have := nd_atB nd hk hc
    omega
  · rintro σ H1 ⟨v3, v4, rfl, s1⟩
    exact q H1 s1
end
end K77
namespace K77
open PySem PySem.Spec PyProof.Rows L2 Td
theorem parts_at {K : PySem.W.Frag} {H : Hp} {v : V} {p : PP} (h : Tn K H v p.data) : ∃ (pa aw as : Addr) (vd ve : V), v = .ref pa ∧ SqT K H pa [.ref aw, .ref as, vd, ve] ∧ SqT K H aw (p.words.map V.str) ∧ SqT K H as (p.sources.map V.str) ∧ Tn K H vd (pairsD p.derived) ∧ Tn K H ve (pairsD p.effects) := by
  obtain ⟨pa, xs, rfl, hS, hT⟩ := Tn.tup_inv h
  cases hT with
  | cons c1 t1 =>
    cases t1 with
    | cons c2 t2 =>
      cases t2 with
      | cons c3 t3 =>
        cases t3 with
        | cons c4 t4 =>
          cases t4
          obtain ⟨aw, ws, rfl, hw, hw2⟩ := Tn.tup_inv c1
          obtain ⟨as, ss, rfl, hs, hs2⟩ := Tn.tup_inv c2
          have e1 := hw2.strs_inv
          have e2 := hs2.strs_inv
          subst e1 e2
          exact ⟨pa, aw, as, _, _, rfl, hS, hw, hs, c3, c4⟩
theorem Ok60_of {p : PP} {m : Nat} (ok : p.Ok m) (hm : m ≤ 16) : p.Ok 60 := by
  refine ⟨ok.w2, ok.w4, ok.s1, ok.s4, ok.d6, ok.e4, ok.wn, ok.nn, okDer_of fun i q hq => ?_, okEff_of fun i q hq => ?_⟩
  · obtain ⟨o1, o2⟩ := okDer_get ok.der hq
    exact ⟨o1, lim60 (by omega)⟩
  · obtain ⟨o1, o2⟩ := okEff_get ok.eff hq
    exact ⟨o1, lim60 (by omega)⟩
theorem firstMany_none : ∀ {ps : List (Str × List Td.Row)} {i : Nat}, (∀ q ∈ ps, cnts q.2 ≤ 16) → firstMany i ps = none
  | [], _, _ => rfl
  | q :: r, i, h => by
    unfold firstMany
    rw [if_pos (h q List.mem_cons_self)]
    exact firstMany_none fun x hx => h x (List.mem_cons_of_mem _ hx)
theorem many_none {p : PP} {m : Nat} (ok : p.Ok m) (hm : m ≤ 16) : manyOf p = none := by
  unfold manyOf
  rw [firstMany_none fun q hq => ?_]
  · show (firstMany 0 p.effects).map (fun i => (true, i)) = none
    rw [firstMany_none fun q hq => ?_]
    · rfl
    · obtain ⟨i, hi⟩ := List.getElem?_of_mem hq
      have := (okEff_get ok.eff hi).2
      omega
  · obtain ⟨i, hi⟩ := List.getElem?_of_mem hq
    have := (okDer_get ok.der hi).2
    omega
def itemsW (L : List (Bool × Way)) : List (PyData × Option (Str × Option (Bool × Int × List Int))) := L.map fun c => (chgD c, clsW c)
theorem items_fst (L : List (Bool × Way)) : (itemsW L).map (·.1) = L.map chgD := by unfold itemsW; rw [List.map_map]; rfl
theorem right_none {p : PP} {L : List (Bool × Way)} (h : ChOk p L) (nd : L.Nodup) (i : Nat) : wrongIt p (itemsW L) i = false := by
  unfold wrongIt
  have e : (itemsW L)[i]? = (L[i]?).map fun c => (chgD c, clsW c) := by unfold itemsW; rw [List.getElem?_map]
  rw [e]
  cases hc : L[i]? with
  | none => rfl
  | some c =>
    show (!chgOk p (clsW c) || hasD (chgD c) (((itemsW L).take i).map (·.1))) = false
    rw [(chg_right h (List.mem_of_getElem? hc)).1, List.map_take, items_fst, ← List.map_take, hasD_chg, decide_eq_false]
    · rfl
    · intro hm
      obtain ⟨k, hk⟩ := List.getElem?_of_mem hm
      have ki : k < i := by
        have := (List.getElem?_eq_some_iff.mp hk).1
        rw [List.length_take] at this
        omega
      rw [List.getElem?_take_of_lt ki] at hk
      have := nd_atB nd hk hc
      omega
/-- right changes, and what becomes of them -/
def OutM (K : PySem.W.Frag) (CP CI : Addr) (H : Hp) (p : PP) (L : List (Bool × Way)) (Q : VK) (E : XK) : Prop :=
  (manyOf (Chd p L) = none → ∀ (x : Addr) H', Same H H' → H x = none → ProgAt K H' CP x (Chd p L) → Q (.ref x) H') ∧ (∀ e i, manyOf (Chd p L) = some (e, i) → RzIP K CI H E "many" (.tuple [.str (kdS e), .int (i : Nat)]))
def spWithL (K : PySem.W.Frag) (CP CI CC : Addr) : Sp := fun vs H Q E => (∃ (pa l : Addr) (cs : List V) (p : PP) (m : Nat) (L : List (Bool × Way)), vs = [.ref pa, .ref l] ∧ ProgAt K H CP pa p ∧ p.Ok m ∧ m ≤ 16 ∧ H l = some (.lst cs) ∧ TnAll K H cs (L.map chgD) ∧ L.length ≤ 20 ∧ ChOk p L ∧ L.Nodup ∧ (∀ c ∈ L, c.2.st.length ≤ 60) ∧ OutM K CP CI H p L Q E) ∨
  (∃ (pa l : Addr) (cs : List V) (p : PP) (m : Nat) (I : List (PyData × Option (Str × Option (Bool × Int × List Int)))) (i : Nat), vs = [.ref pa, .ref l] ∧ ProgAt K H CP pa p ∧ p.Ok m ∧ m ≤ 16 ∧ H l = some (.lst cs) ∧ DpAll K H cs (I.map (·.1)) ∧ I.length ≤ 100 ∧ (∀ c ∈ I, CF c.1 c.2 ∧ c.1.canLay0 = true ∧ c.1.depth ≤ 40) ∧
    (∀ j, j < i → wrongIt p I j = false) ∧ wrongIt p I i = true ∧ Rz CC "index" (.int (i : Nat)) H E)
def spWithT (K : PySem.W.Frag) (CP CI : Addr) : Sp := fun vs H Q E => ∃ (pa l : Addr) (cs : List V) (p : PP) (m : Nat) (L : List (Bool × Way)), vs = [.ref pa, .ref l] ∧ ProgAt K H CP pa p ∧ p.Ok m ∧ m ≤ 16 ∧ SqT K H l cs ∧ TnAll K H cs (L.map chgD) ∧ L.length ≤ 20 ∧ ChOk p L ∧ L.Nodup ∧ (∀ c ∈ L, c.2.st.length ≤ 60) ∧ OutM K CP CI H p L Q E
def spMadeM (K : PySem.W.Frag) (CP : Addr) : Sp := fun vs H Q _ => ∃ (v : V) (p : PP), vs = [v] ∧ Tn K H v p.data ∧ p.Ok 60 ∧ manyOf p = none ∧ ∀ (x : Addr) H', Same H H' → H x = none → ProgAt K H' CP x p → Q (.ref x) H'
section
variable {P : Program} {w : World} {K : PySem.W.Frag} {mg : Str → Option Value} {base : Heap}
theorem ok_with_L (T : Tops w K mg) (G_check_changes : FnOk P w K mg base (L2.CX P w) 7 T.a_check_changes T.d_check_changes ["program", "changes", "most"] (spCheckD K T.c_Program T.c_InvalidChange))
    (G_changed : FnOk P w K mg base (L2.CX P w) 12 T.a_changed T.d_changed ["program", "changes"] (spChangedL K T.c_Program T.c_InvalidProgram)) :
    FnOk P w K mg base (L2.CX P w) 13 T.a_with_changes T.d_with_changes ["program", "changes"] (spWithL K T.c_Program T.c_InvalidProgram T.c_InvalidChange) := by
  refine T.F_with_changes.okX sc_with_changes (fun vs H Q E h => ?_) (fun cdv A outer s H vs Q E hr h => ?_)
  · rcases h with ⟨pa, l, cs, p, m, L, rfl, _⟩ | ⟨pa, l, cs, p, m, I, i, rfl, _⟩
    · rfl
    · rfl
  refine ⟨_, (pss_cons (ps_expr (pe_call G_check_changes (hr.mono (by omega)) rfl T.m_check_changes T.F_check_changes.kp T.b_check_changes .nil (passes_call (takes_of rfl rfl rfl rfl) (fun _ _ _ _ h => h)) (pa_cons (pv 0) (pa_cons (pv 1) (pa_cons (pe_callB call_len rfl T.z_len PySem.boot_len (pa_cons (pv 1) pa_nil)) pa_nil)))))
    (pss_one (ps_ret (pe_call G_changed (hr.mono (by omega)) rfl T.m_changed T.F_changed.kp T.b_changed .nil (passes_call (takes_of rfl rfl rfl rfl) (fun _ _ _ _ h => h)) (pa_cons (pv 0) (pa_cons (pv 1) pa_nil)))))), ?_⟩
  rcases h with ⟨pa, l, cs, p, m, L, rfl, hP, ok, hm, hl, hC, hL, hch, nd, hst, q, bad⟩ | ⟨pa, l, cs, p, m, I, i, rfl, hP, ok, hm, hl, hD, hI, hcf, fine, wr, rz⟩
  · have cl : cs.length = L.length := by have := hC.length; rwa [List.length_map] at this
    have il : (itemsW L).length = L.length := by unfold itemsW; rw [List.length_map]
    refine ⟨_, rfl, _, rfl, _, rfl, .ref l, _, rfl, .inl ⟨_, SqL.of hl, rfl⟩, ?_⟩
    rw [cl, ← il]
    refine ⟨pa, l, cs, p, m, itemsW L, rfl, hP, ok, hm, hl, by rw [items_fst]; exact TnAll.dp hC, by omega, fun c hc => ?_, fun _ H1 s1 => ?_, fun i _ hw => ?_⟩
    · unfold itemsW at hc
      obtain ⟨d, hd, rfl⟩ := List.mem_map.mp hc
      obtain ⟨a, b⟩ := chg_lay d
      exact ⟨chg_cf (chg_right hch hd).2 (hst d hd), a, Nat.le_trans b (by decide)⟩
    · exact ⟨_, rfl, _, rfl, pa, l, cs, p, m, L, rfl, hP.same s1, s1 _ _ hl, TnAll.keep (TK.of_same s1) hC, ok, hm, hL, hch, fun mn x H2 s2 n2 hx => q mn x H2 (s1.trans s2) (free_of' s1 n2) hx, fun e i z => (bad e i z).later s1⟩
    · rw [right_none hch nd i] at hw; cases hw
  · have cl : cs.length = I.length := by have := dp_len hD; rwa [List.length_map] at this
    refine ⟨_, rfl, _, rfl, _, rfl, .ref l, _, rfl, .inl ⟨_, SqL.of hl, rfl⟩, ?_⟩
    rw [cl]
    refine ⟨pa, l, cs, p, m, I, rfl, hP, ok, hm, hl, hD, hI, hcf, fun z => ?_, fun j hj hw => ?_⟩
    · rw [z i] at wr; cases wr
    · have e : j = i := by
        rcases Nat.lt_trichotomy j i with h | h | h
        · rw [fine j h] at hw; cases hw
        · exact h
        · rw [hj i h] at wr; cases wr
      rw [e]
      exact rz
theorem ok_with_T (T : Tops w K mg) (G_check_changes : FnOk P w K mg base CX0 7 T.a_check_changes T.d_check_changes ["program", "changes", "most"] (spCheckT K T.c_Program))
    (G_changed : FnOk P w K mg base (L2.CX P w) 12 T.a_changed T.d_changed ["program", "changes"] (spChangedT K T.c_Program T.c_InvalidProgram)) :
    FnOk P w K mg base (L2.CX P w) 13 T.a_with_changes T.d_with_changes ["program", "changes"] (spWithT K T.c_Program T.c_InvalidProgram) := by
  refine T.F_with_changes.okX sc_with_changes (fun vs H Q E h => ?_) (fun cdv A outer s H vs Q E hr h => ?_)
  · obtain ⟨pa, l, cs, p, m, L, rfl, _⟩ := h
    rfl
  refine ⟨_, (pss_cons (ps_expr (pe_call G_check_changes (hr.mono (by omega)) rfl T.m_check_changes T.F_check_changes.kp T.b_check_changes .nil pass0 (pa_cons (pv 0) (pa_cons (pv 1) (pa_cons (pe_callB call_len rfl T.z_len PySem.boot_len (pa_cons (pv 1) pa_nil)) pa_nil)))))
    (pss_one (ps_ret (pe_call G_changed (hr.mono (by omega)) rfl T.m_changed T.F_changed.kp T.b_changed .nil (passes_call (takes_of rfl rfl rfl rfl) (fun _ _ _ _ h => h)) (pa_cons (pv 0) (pa_cons (pv 1) pa_nil)))))), ?_⟩
  obtain ⟨pa, l, cs, p, m, L, rfl, hP, ok, hm, hl, hC, hL, hch, nd, hst, q, bad⟩ := h
  have cl : cs.length = L.length := by have := hC.length; rwa [List.length_map] at this
  refine ⟨_, rfl, _, rfl, _, rfl, .ref l, _, rfl, .inr ⟨_, hl, rfl⟩, ?_⟩
  rw [cl]
  refine ⟨pa, l, cs, p, m, L, rfl, hP, ok, hm, hl, hC, hL, hch, nd, hst, fun H1 s1 => ?_⟩
  exact ⟨_, rfl, _, rfl, pa, l, cs, p, m, L, rfl, hP.same s1, SqT.same s1 hl, TnAll.keep (TK.of_same s1) hC, ok, hm, hL, hch, fun mn x H2 s2 n2 hx => q mn x H2 (s1.trans s2) (free_of' s1 n2) hx, fun e i z => (bad e i z).later s1⟩
theorem ok_law_programM (T : Tops w K mg) (G_Program_init : FnOk P w K mg base (L2.CX P w) 10 T.a_Program_init T.d_Program_init ["self", "words", "sources", "derived", "effects"] (spProgM K T.c_Program T.c_InvalidProgram)) :
    FnOk P w K mg base (L2.CX P w) 12 T.a__law_program T.d__law_program ["_law_parts_here"] (spMadeM K T.c_Program) := by
  refine T.F__law_program.okX sc_law_program (fun vs H Q E h => ?_) (fun cdv A outer s H vs Q E hr h => ?_)
  · obtain ⟨v, p, rfl, _⟩ := h
    rfl
  obtain ⟨v, p, rfl, hD, ok, hmn, q⟩ := h
  obtain ⟨pa, aw, as, vd, ve, rfl, hP, h1, h2, h3, h4⟩ := parts_at hD
  refine ⟨_, (pss_one (ps_ret (pe_make T.k_Program G_Program_init (hr.mono (by omega)) rfl T.m_Program T.b_Program_init .nil (passes_call (takes_of rfl rfl rfl rfl) (fun _ _ _ _ h => h)) (pa_cons (pe_ix ix_tup (pv 0) pe_int (fun _ _ => rfl)) (pa_cons (pe_ix ix_tup (pv 0) pe_int (fun _ _ => rfl)) (pa_cons (pe_ix ix_tup (pv 0) pe_int (fun _ _ => rfl)) (pa_cons (pe_ix ix_tup (pv 0) pe_int (fun _ _ => rfl)) pa_nil))))))), ?_⟩
  refine ⟨_, rfl, pa, _, 0, _, rfl, rfl, hP, rfl, _, rfl, pa, _, 1, _, rfl, rfl, hP, rfl, _, rfl, pa, _, 2, _, rfl, rfl, hP, rfl, _, rfl, pa, _, 3, _, rfl, rfl, hP, rfl, fun x dx hx hdx hne => ?_⟩
  have sx : Same H (upd (upd H dx (.own x)) x (.ins T.c_Program dx [])) := (Same.new hdx _).trans (Same.new (by rw [upd_ne (Ne.symm hne)]; exact hx) _)
  refine ⟨x, dx, aw, as, vd, ve, p, rfl, upd_same, SqT.same sx h1, SqT.same sx h2, Tn.same sx h3, Tn.same sx h4, ok, fun _ dn en H5 s5 hdn hen => ⟨rfl, ?_⟩, fun e i z => ?_⟩
  · have s46 : Same H (upd H5 x (.ins T.c_Program dx (progF aw as vd ve dn en))) := own_same (sx.trans s5) hx
    exact q x _ s46 hx ⟨dx, aw, as, vd, ve, ⟨dn, en, upd_same, hdn, hen⟩, SqT.same s46 h1, SqT.same s46 h2, Tn.same s46 h3, Tn.same s46 h4⟩
  · rw [hmn] at z; cases z
end
end K77
namespace K77
open PySem PySem.Spec PyProof.Rows L2 Td
/-! ### rows with their paths -/
mutual
def prsR : Td.Row → List Int → Nat → List (List Int × Td.Row)
  | .ite s u y n, pb, i => (pb ++ [((i : Nat) : Int)], .ite s u y n) :: (prsRs y (pb ++ [((i : Nat) : Int), 0]) 0 ++ prsRs n (pb ++ [((i : Nat) : Int), 1]) 0)
  | .rd pk c s, pb, i => [(pb ++ [((i : Nat) : Int)], .rd pk c s)]
  | .put s u, pb, i => [(pb ++ [((i : Nat) : Int)], .put s u)]
  | .give s, pb, i => [(pb ++ [((i : Nat) : Int)], .give s)]
  | .say s, pb, i => [(pb ++ [((i : Nat) : Int)], .say s)]
  | .wr c s, pb, i => [(pb ++ [((i : Nat) : Int)], .wr c s)]
def prsRs : List Td.Row → List Int → Nat → List (List Int × Td.Row)
  | [], _, _ => []
  | r :: rs, pb, k => prsR r pb k ++ prsRs rs pb (k + 1)
end
theorem prsRs_append : ∀ (rs ts : List Td.Row) (pb : List Int) (k : Nat), prsRs (rs ++ ts) pb k = prsRs rs pb k ++ prsRs ts pb (k + rs.length)
  | [], ts, pb, k => by simp [prsRs]
  | r :: rs, ts, pb, k => by
    rw [List.cons_append]
    simp only [prsRs, prsRs_append rs ts pb (k + 1), List.append_assoc, List.length_cons]
    rw [show k + 1 + rs.length = k + (rs.length + 1) by omega]
theorem prsRs_take {rs : List Td.Row} {i : Nat} {r : Td.Row} (h : rs[i]? = some r) (pb : List Int) : prsRs (rs.take (i + 1)) pb 0 = prsRs (rs.take i) pb 0 ++ prsR r pb i := by
  have hi : i < rs.length := (List.getElem?_eq_some_iff.mp h).1
  rw [take_more h, prsRs_append]
  simp only [prsRs, List.append_nil, List.length_take]
  rw [show 0 + min i rs.length = i by omega]
theorem prsR_flat {r : Td.Row} (h : isIte r = false) (pb : List Int) (i : Nat) : prsR r pb i = [(pb ++ [((i : Nat) : Int)], r)] := by
  cases r with
  | ite => cases h
  | _ => simp only [prsR]
mutual
theorem prsR_len : ∀ (r : Td.Row) (pb : List Int) (i : Nat), (prsR r pb i).length = Td.cnt r
  | .ite _ _ y n, pb, i => by
    simp only [prsR, Td.cnt, List.length_cons, List.length_append, prsRs_len y, prsRs_len n]
    omega
  | .rd .., pb, i => by simp [prsR, Td.cnt]
  | .put .., pb, i => by simp [prsR, Td.cnt]
  | .give .., pb, i => by simp [prsR, Td.cnt]
  | .say .., pb, i => by simp [prsR, Td.cnt]
  | .wr .., pb, i => by simp [prsR, Td.cnt]
theorem prsRs_len : ∀ (rs : List Td.Row) (pb : List Int) (k : Nat), (prsRs rs pb k).length = cnts rs
  | [], pb, k => by simp [prsRs, cnts]
  | r :: rs, pb, k => by simp only [prsRs, cnts, List.length_append, prsR_len r, prsRs_len rs]
end
theorem rowAt_one' {rs : List Td.Row} {i : Nat} {r : Td.Row} (h : rs[i]? = some r) : rowAt rs [((i : Nat) : Int)] = some r := by
  unfold rowAt
  rw [getI_nat]
  exact h
theorem rowAt_in {rs : List Td.Row} {i : Nat} {s u : Str} {y n : List Td.Row} (h : rs[i]? = some (.ite s u y n)) (j : Int) (st : List Int) : rowAt rs (((i : Nat) : Int) :: j :: st) = if j = 0 then rowAt y st else if j = 1 then rowAt n st else none := by
  conv => lhs; rw [rowAt]
  rw [getI_nat, h]
/-! a row stands at its path -/
mutual
theorem prs_at : ∀ (r : Td.Row) (pb : List Int) (i : Nat) (Rs : List Td.Row), Rs[i]? = some r → ∀ c ∈ prsR r pb i, ∃ st', c.1 = pb ++ ((i : Nat) : Int) :: st' ∧ rowAt Rs (((i : Nat) : Int) :: st') = some c.2 ∧ st'.length + 1 ≤ 2 * Td.cnt r
  | .ite s u y n, pb, i, Rs, h, c, hc => by
    unfold prsR at hc
    have ec : Td.cnt (.ite s u y n) = 1 + cnts y + cnts n := by unfold Td.cnt; rfl
    rcases List.mem_cons.mp hc with rfl | hc
    · exact ⟨[], rfl, rowAt_one' h, by rw [ec]; show 1 ≤ _; omega⟩
    · rcases List.mem_append.mp hc with hc | hc
      · obtain ⟨j, st', e, h1, h2, _⟩ := prs_atL y (pb ++ [((i : Nat) : Int), 0]) 0 y [] rfl rfl c hc
        refine ⟨0 :: ((j : Nat) : Int) :: st', by rw [e]; simp, ?_, by rw [ec, List.length_cons, List.length_cons]; omega⟩
        rw [rowAt_in h]
        exact h1
      · obtain ⟨j, st', e, h1, h2, _⟩ := prs_atL n (pb ++ [((i : Nat) : Int), 1]) 0 n [] rfl rfl c hc
        refine ⟨1 :: ((j : Nat) : Int) :: st', by rw [e]; simp, ?_, by rw [ec, List.length_cons, List.length_cons]; omega⟩
        rw [rowAt_in h]
        exact h1
  | .rd .., pb, i, Rs, h, c, hc => by unfold prsR at hc; rw [List.mem_singleton.mp hc]; exact ⟨[], rfl, rowAt_one' h, by simp [Td.cnt]⟩
  | .put .., pb, i, Rs, h, c, hc => by unfold prsR at hc; rw [List.mem_singleton.mp hc]; exact ⟨[], rfl, rowAt_one' h, by simp [Td.cnt]⟩
  | .give .., pb, i, Rs, h, c, hc => by unfold prsR at hc; rw [List.mem_singleton.mp hc]; exact ⟨[], rfl, rowAt_one' h, by simp [Td.cnt]⟩
  | .say .., pb, i, Rs, h, c, hc => by unfold prsR at hc; rw [List.mem_singleton.mp hc]; exact ⟨[], rfl, rowAt_one' h, by simp [Td.cnt]⟩
  | .wr .., pb, i, Rs, h, c, hc => by unfold prsR at hc; rw [List.mem_singleton.mp hc]; exact ⟨[], rfl, rowAt_one' h, by simp [Td.cnt]⟩
theorem prs_atL : ∀ (rs : List Td.Row) (pb : List Int) (k : Nat) (Rs pre : List Td.Row), Rs = pre ++ rs → pre.length = k → ∀ c ∈ prsRs rs pb k, ∃ (j : Nat) (st' : List Int), c.1 = pb ++ ((j : Nat) : Int) :: st' ∧ rowAt Rs (((j : Nat) : Int) :: st') = some c.2 ∧ st'.length + 1 ≤ 2 * cnts rs ∧ k ≤ j
  | [], pb, k, Rs, pre, _, _, c, hc => by unfold prsRs at hc; cases hc
  | r :: rs, pb, k, Rs, pre, e, ek, c, hc => by
    unfold prsRs at hc
    have ec : cnts (r :: rs) = Td.cnt r + cnts rs := by simp only [cnts]
    rcases List.mem_append.mp hc with hc | hc
    · obtain ⟨st', e1, h1, h2⟩ := prs_at r pb k Rs (by rw [e, ← ek]; simp) c hc
      exact ⟨k, st', e1, h1, by rw [ec]; omega, Nat.le_refl _⟩
    · obtain ⟨j, st', e1, h1, h2, h3⟩ := prs_atL rs pb (k + 1) Rs (pre ++ [r]) (by rw [e, List.append_assoc]; rfl) (by rw [List.length_append, ek]; rfl) c hc
      exact ⟨j, st', e1, h1, by rw [ec]; omega, by omega⟩
end
theorem app_ne {α : Type} {a b c : List α} {x y : α} (h : a ++ x :: b = a ++ y :: c) : x = y := by
  have := List.append_cancel_left h
  injection this
/-! no path comes twice -/
mutual
theorem prs_nd : ∀ (r : Td.Row) (pb : List Int) (i : Nat), ((prsR r pb i).map (·.1)).Nodup
  | .ite s u y n, pb, i => by
    unfold prsR
    rw [List.map_cons, List.map_append, List.nodup_cons, List.nodup_append]
    have hy : ∀ c ∈ prsRs y (pb ++ [((i : Nat) : Int), 0]) 0, ∃ t, c.1 = pb ++ ((i : Nat) : Int) :: 0 :: t := fun c hc => by
      obtain ⟨j, st', e, _⟩ := prs_atL y _ 0 y [] rfl rfl c hc
      exact ⟨_, by rw [e, List.append_assoc]; rfl⟩
    have hn : ∀ c ∈ prsRs n (pb ++ [((i : Nat) : Int), 1]) 0, ∃ t, c.1 = pb ++ ((i : Nat) : Int) :: 1 :: t := fun c hc => by
      obtain ⟨j, st', e, _⟩ := prs_atL n _ 0 n [] rfl rfl c hc
      exact ⟨_, by rw [e, List.append_assoc]; rfl⟩
    refine ⟨fun h => ?_, prs_ndL y _ 0, prs_ndL n _ 0, fun a ha b hb e => ?_⟩
    · rcases List.mem_append.mp h with h | h
      · obtain ⟨c, hc, e⟩ := List.mem_map.mp h
        obtain ⟨t, e2⟩ := hy c hc
        rw [e2] at e
        have := congrArg List.length e
        simp at this
      · obtain ⟨c, hc, e⟩ := List.mem_map.mp h
        obtain ⟨t, e2⟩ := hn c hc
        rw [e2] at e
        have := congrArg List.length e
        simp at this
    · obtain ⟨c, hc, rfl⟩ := List.mem_map.mp ha
      obtain ⟨d, hd, rfl⟩ := List.mem_map.mp hb
      obtain ⟨t, e2⟩ := hy c hc
      obtain ⟨u, e3⟩ := hn d hd
      rw [e2, e3] at e
      have h1 := List.append_cancel_left e
      injection h1 with _ h1
      injection h1 with h1 _
      exact absurd h1 (by decide)
  | .rd .., pb, i => by unfold prsR; simp
  | .put .., pb, i => by unfold prsR; simp
  | .give .., pb, i => by unfold prsR; simp
  | .say .., pb, i => by unfold prsR; simp
  | .wr .., pb, i => by unfold prsR; simp
theorem prs_ndL : ∀ (rs : List Td.Row) (pb : List Int) (k : Nat), ((prsRs rs pb k).map (·.1)).Nodup
  | [], pb, k => by unfold prsRs; simp
  | r :: rs, pb, k => by
    unfold prsRs
    rw [List.map_append, List.nodup_append]
    refine ⟨prs_nd r pb k, prs_ndL rs pb (k + 1), fun a ha b hb e => ?_⟩
    obtain ⟨c, hc, rfl⟩ := List.mem_map.mp ha
    obtain ⟨d, hd, rfl⟩ := List.mem_map.mp hb
    obtain ⟨st', e1, _⟩ := prs_at r pb k (List.replicate k r ++ [r]) (by simp) c hc
    obtain ⟨j, st2, e2, _, _, hj⟩ := prs_atL rs pb (k + 1) (List.replicate (k + 1) r ++ rs) (List.replicate (k + 1) r) rfl (by simp) d hd
    rw [e1, e2] at e
    have := app_ne e
    omega
end
/-- a row with its path, as data -/
def prD (c : Way × Td.Row) : PyData := .tuple [c.1.data, rowD c.2]
def wayR (e : Bool) (i : Nat) (c : List Int × Td.Row) : Way × Td.Row := (⟨e, i, c.1⟩, c.2)
def prsP (e : Bool) : List (Str × List Td.Row) → Nat → List (Way × Td.Row)
  | [], _ => []
  | q :: r, i => (prsRs q.2 [] 0).map (wayR e i) ++ prsP e r (i + 1)
theorem prsP_append (e : Bool) : ∀ (ps qs : List (Str × List Td.Row)) (i : Nat), prsP e (ps ++ qs) i = prsP e ps i ++ prsP e qs (i + ps.length)
  | [], qs, i => by simp [prsP]
  | p :: ps, qs, i => by
    rw [List.cons_append]
    simp only [prsP, prsP_append e ps qs (i + 1), List.append_assoc, List.length_cons]
    rw [show i + 1 + ps.length = i + (ps.length + 1) by omega]
theorem prsP_take {e : Bool} {ps : List (Str × List Td.Row)} {i : Nat} {q : Str × List Td.Row} (h : ps[i]? = some q) : prsP e (ps.take (i + 1)) 0 = prsP e (ps.take i) 0 ++ (prsRs q.2 [] 0).map (wayR e i) := by
  have hi : i < ps.length := (List.getElem?_eq_some_iff.mp h).1
  rw [take_more h, prsP_append]
  simp only [prsP, List.append_nil, List.length_take]
  rw [show 0 + min i ps.length = i by omega]
theorem prsP_len {e : Bool} : ∀ {ps : List (Str × List Td.Row)} {k : Nat}, (∀ q ∈ ps, cnts q.2 ≤ 16) → (prsP e ps k).length ≤ 16 * ps.length
  | [], k, _ => by simp [prsP]
  | p :: ps, k, h => by
    have h1 := h p (List.mem_cons_self ..)
    have h2 := prsP_len (e := e) (ps := ps) (k := k + 1) (fun q hq => h q (List.mem_cons_of_mem _ hq))
    simp only [prsP, List.length_append, List.length_map, prsRs_len, List.length_cons]
    omega
theorem prsP_at {e : Bool} : ∀ (ps : List (Str × List Td.Row)) (k : Nat) (Ps pre : List (Str × List Td.Row)), Ps = pre ++ ps → pre.length = k → ∀ c ∈ prsP e ps k, c.1.e = e ∧ k ≤ c.1.i ∧ ∃ q, Ps[c.1.i]? = some q ∧ rowAt q.2 c.1.st = some c.2 ∧ c.1.st.length ≤ 2 * cnts q.2
  | [], k, Ps, pre, _, _, c, hc => nomatch hc
  | q :: r, k, Ps, pre, eP, ek, c, hc => by
    rcases List.mem_append.mp (show c ∈ (prsRs q.2 [] 0).map (wayR e k) ++ prsP e r (k + 1) from hc) with hc | hc
    · obtain ⟨d, hd, rfl⟩ := List.mem_map.mp hc
      obtain ⟨j, st', e1, h1, h2, _⟩ := prs_atL q.2 [] 0 q.2 [] rfl rfl d hd
      rw [List.nil_append] at e1
      refine ⟨rfl, Nat.le_refl _, q, by show Ps[k]? = _; rw [eP, ← ek]; simp, ?_, ?_⟩
      · show rowAt q.2 d.1 = some d.2
        rw [e1]; exact h1
      · show d.1.length ≤ _
        rw [e1, List.length_cons]; exact h2
    · obtain ⟨h1, h2, h3⟩ := prsP_at r (k + 1) Ps (pre ++ [q]) (by rw [eP, List.append_assoc]; rfl) (by rw [List.length_append, ek]; rfl) c hc
      exact ⟨h1, by omega, h3⟩
theorem prsP_nd {e : Bool} : ∀ (ps : List (Str × List Td.Row)) (k : Nat), ((prsP e ps k).map (·.1)).Nodup
  | [], k => by simp [prsP]
  | q :: r, k => by
    show (((prsRs q.2 [] 0).map (wayR e k) ++ prsP e r (k + 1)).map (·.1)).Nodup
    rw [List.map_append, List.nodup_append]
    refine ⟨?_, prsP_nd r (k + 1), fun a ha b hb eq => ?_⟩
    · have h := prs_ndL q.2 [] 0
      rw [List.map_map]
      have e2 : (prsRs q.2 [] 0).map ((fun x : Way × Td.Row => x.1) ∘ wayR e k) = ((prsRs q.2 [] 0).map (·.1)).map fun st => (⟨e, k, st⟩ : Way) := by rw [List.map_map]; rfl
      rw [e2]
      exact List.Pairwise.map _ (fun a b hab z => hab (by injection z)) h
    · obtain ⟨c, hc, rfl⟩ := List.mem_map.mp ha
      obtain ⟨d, hd, rfl⟩ := List.mem_map.mp hb
      obtain ⟨c', _, rfl⟩ := List.mem_map.mp hc
      have h := (prsP_at (e := e) r (k + 1) (List.replicate (k + 1) q ++ r) (List.replicate (k + 1) q) rfl (by simp) d hd).2.1
      have : k = d.1.i := congrArg Way.i eq
      omega
def prsAll (p : PP) : List (Way × Td.Row) := prsP false p.derived 0 ++ prsP true p.effects 0
theorem prsAll_at {p : PP} {m : Nat} (ok : p.Ok m) {c : Way × Td.Row} (hc : c ∈ prsAll p) : ∃ q, (bodiesOf p c.1.e)[c.1.i]? = some q ∧ rowAt q.2 c.1.st = some c.2 ∧ c.1.st.length ≤ 2 * m := by
  unfold prsAll at hc
  rcases List.mem_append.mp hc with hc | hc
  · obtain ⟨e, _, q, h1, h2, h3⟩ := prsP_at p.derived 0 p.derived [] rfl rfl c hc
    have := (okDer_get ok.der h1).2
    exact ⟨q, by rw [e]; exact h1, h2, by omega⟩
  · obtain ⟨e, _, q, h1, h2, h3⟩ := prsP_at p.effects 0 p.effects [] rfl rfl c hc
    have := (okEff_get ok.eff h1).2
    exact ⟨q, by rw [e]; exact h1, h2, by omega⟩
theorem prsAll_nd (p : PP) : ((prsAll p).map (·.1)).Nodup := by
  unfold prsAll
  rw [List.map_append, List.nodup_append]
  refine ⟨prsP_nd .., prsP_nd .., fun a ha b hb e => ?_⟩
  obtain ⟨c, hc, rfl⟩ := List.mem_map.mp ha
  obtain ⟨d, hd, rfl⟩ := List.mem_map.mp hb
  have h1 := (prsP_at p.derived 0 p.derived [] rfl rfl c hc).1
  have h2 := (prsP_at p.effects 0 p.effects [] rfl rfl d hd).1
  rw [e, h2] at h1
  cases h1
theorem few_rows {p : PP} {m : Nat} (ok : p.Ok m) (hm : m ≤ 16) : (∀ q ∈ p.derived, cnts q.2 ≤ 16) ∧ (∀ q ∈ p.effects, cnts q.2 ≤ 16) :=
  ⟨fun q hq => by have := (okDer_lim ok.der hq).1; omega, fun q hq => by have := (okEff_lim ok.eff hq).1; omega⟩
theorem prsAll_len {p : PP} {m : Nat} (ok : p.Ok m) (hm : m ≤ 16) : (prsAll p).length ≤ 160 := by
  obtain ⟨f1, f2⟩ := few_rows ok hm
  have h1 := prsP_len (e := false) (k := 0) f1
  have h2 := prsP_len (e := true) (k := 0) f2
  have d6 := ok.d6
  have e4 := ok.e4
  unfold prsAll
  rw [List.length_append]
  omega
def spPrs (K : PySem.W.Frag) (n : Nat) : Sp := fun vs H Q _ => ∃ (v : V) (b : Addr) (e : Bool) (i : Nat) (pb : List Int) (S : Sc) (dep : Nat) (rs : List Td.Row), vs = [v, .ref b] ∧ Tn K H v (.tuple (rowsD rs)) ∧
  SqT K H b (Way.mk e i pb).vs ∧ pb.length ≤ 2 * dep ∧ okRs S dep rs ∧ cnts rs ≤ 100 ∧ dep ≤ 4 ∧ 5 ≤ dep + n ∧ ∀ (p : Addr) (xs : List V) H', Same H H' → H p = none → H' p = some (.lst xs) → TnAll K H' xs (((prsRs rs pb 0).map (wayR e i)).map prD) → Q (.ref p) H'
def spPrsAll (K : PySem.W.Frag) : Sp := fun vs H Q _ => ∃ (v : V) (p : PP) (m : Nat), vs = [v] ∧ Tn K H v p.data ∧ p.Ok m ∧ m ≤ 16 ∧
  ∀ (l : Addr) (xs : List V) H', Same H H' → H l = none → H' l = some (.lst xs) → TnAll K H' xs ((prsAll p).map prD) → Q (.ref l) H'
section
variable {P : Program} {w : World} {K : PySem.W.Frag} {mg : Str → Option Value} {base : Heap}
theorem ok_prs1 (T : Tops w K mg) {n : Nat} (G__law_paths : FnOk P w K mg base CX0 n T.a__law_paths T.d__law_paths ["_law_rows_here", "_law_path"] (spPrs K n)) :
    FnOk P w K mg base CX0 (n + 1) T.a__law_paths T.d__law_paths ["_law_rows_here", "_law_path"] (spPrs K (n + 1)) := by
  refine T.F__law_paths.ok sc_law_paths (fun vs H Q E h => ?_) (fun cdv A outer s H vs Q E hr h => ?_)
  · obtain ⟨v, b, e, i, pb, S, dep, rs, rfl, _⟩ := h
    rfl
  obtain ⟨v, b, eb, ib, pb, S, dep, rs, rfl, hD, hB, hbl, ok, hcn, hdep, hn, q⟩ := h
  obtain ⟨a, xs, rfl, hS, hX⟩ := Tn.tup_inv hD
  have hl : xs.length = rs.length := by rw [hX.length, rowsD_length]
  have lr : rs.length ≤ cnts rs := cnts_len rs
  refine ⟨_, (pss_cons (ps_set (i := 2) sc_law_paths.nd rfl (Or.inl rfl) (pe_lst pa_nil))
    (pss_cons (ps_for PassesOwn.never rfl (pi_range1 rfl T.z_range (pa_cons (pe_callB call_len rfl T.z_len PySem.boot_len (pa_cons (pv 0) pa_nil)) pa_nil)) (pg_name (i := 3) sc_law_paths.nd rfl (Or.inl rfl)) (pss_cons (ps_expr (pe_bm PySem.F.plainAttrs_list PySem.F.slot_list_append PySem.F.type_list_append mt_append (pv 2) (pa_cons (pe_tup (pa_cons (pe_op op_catA (pv 1) (pe_tup (pa_cons (pv 3) pa_nil))) (pa_cons (pe_ix ix_tup (pv 0) (pv 3) (fun _ _ => rfl)) pa_nil))) pa_nil)))
    (pss_one (ps_if (pt_cmpR op_eq (pe_ix ix_tup (pe_ix ix_tup (pv 0) (pv 3) (fun _ _ => rfl)) pe_int (fun _ _ => rfl)) pe_str (nomark _)) (pss_one (ps_set (i := 2) sc_law_paths.nd rfl (Or.inl rfl) (pe_op op_cat (pe_op op_cat (pv 2) (pe_call G__law_paths (hr.mono (by omega)) rfl T.m__law_paths T.F__law_paths.kp T.b__law_paths .nil pass0 (pa_cons (pe_ix ix_tup (pe_ix ix_tup (pv 0) (pv 3) (fun _ _ => rfl)) pe_int (fun _ _ => rfl)) (pa_cons (pe_op op_catA (pv 1) (pe_tup (pa_cons (pv 3) (pa_cons pe_int pa_nil)))) pa_nil)))) (pe_call G__law_paths (hr.mono (by omega)) rfl T.m__law_paths T.F__law_paths.kp T.b__law_paths .nil pass0 (pa_cons (pe_ix ix_tup (pe_ix ix_tup (pv 0) (pv 3) (fun _ _ => rfl)) pe_int (fun _ _ => rfl)) (pa_cons (pe_op op_catA (pv 1) (pe_tup (pa_cons (pv 3) (pa_cons pe_int pa_nil)))) pa_nil)))))) pss_nil))))
    (pss_one (ps_ret (pv 2))))), ?_⟩
  refine ⟨by show 0 ≤ sizeLine; decide, fun p hp => ?_⟩
  have bl : (Way.mk eb ib pb).vs.length ≤ 12 := by unfold Way.vs; rw [List.length_cons, List.length_cons, List.length_map]; show pb.length + 1 + 1 ≤ 12; omega
  refine ⟨_, rfl, .ref a, _, rfl, .inr ⟨_, SqT.same (Same.new hp _) hS, rfl⟩, ((xs.length : Nat) : Int), rfl, by omega, by omega, for_range (lo := 0) (n := ((xs.length : Nat) : Int).toNat)
    (fun i σ H' => ∃ (v3 : Option V) (l : Addr) (ys : List V), σ = [some (.ref a), some (.ref b), some (.ref l), v3] ∧ Same H H' ∧ H l = none ∧ H' l = some (.lst ys) ∧ TnAll K H' ys (((prsRs (rs.take i) pb 0).map (wayR eb ib)).map prD))
    ⟨none, p, [], rfl, Same.new hp _, hp, upd_same, by simp only [List.take_zero, prsRs]; exact .nil⟩ ?_ ?_⟩
  · rintro i σ H1 hi ⟨v3, l, ys, rfl, hs, hnl, hy, hyT⟩
    rw [Int.toNat_natCast] at hi
    rw [show (0 : Int) + (i : Nat) = (i : Nat) by omega]
    have hix : xs[i]? = some xs[i] := List.getElem?_eq_getElem hi
    obtain ⟨d, hd1, hd2⟩ := TnAll.get hX hix
    rw [rowsD_map, List.getElem?_map] at hd1
    obtain ⟨r, hr2, rfl⟩ := Option.map_eq_some_iff.mp hd1
    have okr := okRs_get ok hr2
    have hcr := cnts_get hr2
    have hyl : ys.length = cnts (rs.take i) := by rw [hyT.length, List.length_map, List.length_map, prsRs_len]
    have ptk := prsRs_take hr2 pb
    refine ⟨_, rfl, .inl ⟨rfl, _, SqL.of hy⟩, ?_⟩
    refine ⟨_, rfl, _, rfl, by show 1 ≤ sizeLine; decide, fun t1 ht1 => ?_⟩
    have s12 := Same.new ht1 (.tup [.int (i : Nat)])
    refine cat_all (SqT.same (hs.trans s12) hB) (SqT.of upd_same) (Nat.le_of_lt (small1000 (by show _ + 1 ≤ 1000; omega))) (fun pa H3 s3 hP => ?_)
    have s13 := s12.trans s3
    have hs3 := hs.trans s13
    have hpT : Tn K H3 (.ref pa) (Way.mk eb ib (pb ++ [((i : Nat) : Int)])).data := Way.tn (by
      have : (Way.mk eb ib (pb ++ [((i : Nat) : Int)])).vs = (Way.mk eb ib pb).vs ++ [.int (i : Nat)] := by unfold Way.vs; rw [List.map_append]; rfl
      rw [this]; exact hP)
    refine ⟨_, rfl, _, rfl, a, _, (i : Nat), _, rfl, rfl, SqT.same hs3 hS, atI_nat hix, by show 2 ≤ sizeLine; decide, fun t2 ht2 => ?_⟩
    have s34 := Same.new ht2 (.tup [.ref pa, xs[i]])
    have s14 := s13.trans s34
    have hy4 := s14 _ _ hy
    have hyT4 := TnAll.keep (TK.of_same s14) hyT
    have hxi : Tn K (upd H3 t2 (.tup [.ref pa, xs[i]])) xs[i] (rowD r) := Tn.same (hs.trans s14) hd2
    have hpr : Tn K (upd H3 t2 (.tup [.ref pa, xs[i]])) (.ref t2) (prD (wayR eb ib (pb ++ [((i : Nat) : Int)], r))) := .tup (SqT.of upd_same) (.cons (Tn.same s34 hpT) (.cons hxi .nil))
    have hs4 := hs.trans s14
    generalize upd H3 t2 (.tup [.ref pa, xs[i]]) = H4 at s34 s14 hy4 hyT4 hxi hpr hs4
    refine ⟨l, ys, _, rfl, rfl, hy4, small1000 (by omega), ?_⟩
    have hs5 : Same H (upd H4 l (.lst (ys ++ [.ref t2]))) := Same.own hs4 hnl
    have tk5 : TK H4 (upd H4 l (.lst (ys ++ [.ref t2]))) := TK.upd (by rw [hy4]; trivial)
    have hy5 : upd H4 l (.lst (ys ++ [.ref t2])) l = some (.lst (ys ++ [.ref t2])) := upd_same
    have hT5 : TnAll K (upd H4 l (.lst (ys ++ [.ref t2]))) (ys ++ [.ref t2]) (((prsRs (rs.take i) pb 0).map (wayR eb ib)).map prD ++ [prD (wayR eb ib (pb ++ [((i : Nat) : Int)], r))]) := TnAll.append (TnAll.keep tk5 hyT4) (TnAll.one (Tn.keep tk5 hpr))
    have hx5 := Tn.keep tk5 hxi
    have hl5 : (ys ++ [V.ref t2]).length = cnts (rs.take i) + 1 := by rw [List.length_append, hyl]; rfl
    generalize upd H4 l (.lst (ys ++ [.ref t2])) = H5 at hs5 hy5 hT5 hx5
    generalize ys ++ [V.ref t2] = ys5 at hy5 hl5 hT5
    cases hi2 : isIte r with
    | false =>
      obtain ⟨ar, zs, exr, hSr, h0⟩ := row_at (Tn.dp hx5)
      rw [exr] at hix
      refine ⟨_, rfl, _, rfl, a, _, (i : Nat), .ref ar, rfl, rfl, SqT.same hs5 hS, atI_nat hix, ar, _, 0, _, rfl, rfl, hSr, atI_nat (j := 0) h0, rfl, _, rfl, ?_⟩
      exact if_false_of ((tag_if r).trans hi2) ⟨_, l, ys5, rfl, hs5, hnl, hy5, by rw [ptk, prsR_flat hi2, List.map_append, List.map_append]; exact hT5⟩
    | true =>
      cases r with
      | ite sl u y n' =>
        obtain ⟨ar, vy, vn, exr, hSr, hyD, hnD⟩ := ite_tn hx5
        rw [exr] at hix
        unfold okR at okr
        have ecn : Td.cnt (Td.Row.ite sl u y n') = 1 + cnts y + cnts n' := by unfold Td.cnt; rfl
        have epr : prsR (Td.Row.ite sl u y n') pb i = (pb ++ [((i : Nat) : Int)], .ite sl u y n') :: (prsRs y (pb ++ [((i : Nat) : Int), 0]) 0 ++ prsRs n' (pb ++ [((i : Nat) : Int), 1]) 0) := by simp only [prsR]
        refine ⟨_, rfl, _, rfl, a, _, (i : Nat), .ref ar, rfl, rfl, SqT.same hs5 hS, atI_nat hix, ar, _, 0, _, rfl, rfl, hSr, rfl, rfl, _, rfl, ?_⟩
        refine if_true_of (by decide +kernel) ?_
        refine ⟨_, rfl, _, rfl, _, rfl, a, _, (i : Nat), .ref ar, rfl, rfl, SqT.same hs5 hS, atI_nat hix, ar, _, 3, _, rfl, rfl, hSr, rfl, _, rfl, _, rfl, by show 2 ≤ sizeLine; decide, fun t3 ht3 => ?_⟩
        have s56 := Same.new ht3 (.tup [.int (i : Nat), .int 0])
        refine cat_all (SqT.same (hs5.trans s56) hB) (SqT.of upd_same) (Nat.le_of_lt (small1000 (by show _ + 2 ≤ 1000; omega))) (fun pb1 H6 s6 hP6 => ?_)
        have s66 := s56.trans s6
        have hs6 := hs5.trans s66
        refine ⟨vy, pb1, eb, ib, pb ++ [((i : Nat) : Int), 0], S, dep + 1, y, rfl, Tn.same s66 hyD, ?_, by simp; omega, okr.2.2.2.1, by omega, by omega, by omega, fun p2 ws H7 s7 hp2 hw hwT => ?_⟩
        · have : (Way.mk eb ib (pb ++ [((i : Nat) : Int), 0])).vs = (Way.mk eb ib pb).vs ++ [.int (i : Nat), .int 0] := by unfold Way.vs; rw [List.map_append]; rfl
          rw [this]; exact hP6
        have s67 := s66.trans s7
        have hy7 := s67 _ _ hy5
        have hwl : ws.length = cnts y := by rw [hwT.length, List.length_map, List.length_map, prsRs_len]
        refine ⟨l, p2, ys5, ws, rfl, rfl, hy7, hw, Nat.le_of_lt (small1000 (by omega)), fun p3 hp3 => ?_⟩
        have s78 := Same.new hp3 (.lst (ys5 ++ ws))
        have hs8 := (hs5.trans s67).trans s78
        have hy8 : upd H7 p3 (.lst (ys5 ++ ws)) p3 = some (.lst (ys5 ++ ws)) := upd_same
        have hT8 := TnAll.append (TnAll.keep (TK.of_same (s67.trans s78)) hT5) (TnAll.keep (TK.of_same s78) hwT)
        have hl8 : (ys5 ++ ws).length = cnts (rs.take i) + 1 + cnts y := by rw [List.length_append, hl5, hwl]
        have s58 := s67.trans s78
        generalize upd H7 p3 (.lst (ys5 ++ ws)) = H8 at hs8 hy8 hT8 s58
        generalize ys5 ++ ws = ys8 at hy8 hT8 hl8
        refine ⟨_, rfl, _, rfl, a, _, (i : Nat), .ref ar, rfl, rfl, SqT.same hs8 hS, atI_nat hix, ar, _, 4, _, rfl, rfl, SqT.same s58 hSr, rfl, _, rfl, _, rfl, by show 2 ≤ sizeLine; decide, fun t4 ht4 => ?_⟩
        have s89 := Same.new ht4 (.tup [.int (i : Nat), .int 1])
        refine cat_all (SqT.same (hs8.trans s89) hB) (SqT.of upd_same) (Nat.le_of_lt (small1000 (by show _ + 2 ≤ 1000; omega))) (fun pb2 H10 s10 hP10 => ?_)
        have s810 := s89.trans s10
        have hs10 := hs8.trans s810
        refine ⟨vn, pb2, eb, ib, pb ++ [((i : Nat) : Int), 1], S, dep + 1, n', rfl, Tn.same (s58.trans s810) hnD, ?_, by simp; omega, okr.2.2.2.2, by omega, by omega, by omega, fun p4 ws3 H11 s11 hp4 hw3 hwT3 => ?_⟩
        · have : (Way.mk eb ib (pb ++ [((i : Nat) : Int), 1])).vs = (Way.mk eb ib pb).vs ++ [.int (i : Nat), .int 1] := by unfold Way.vs; rw [List.map_append]; rfl
          rw [this]; exact hP10
        have s811 := s810.trans s11
        have hy11 := s811 _ _ hy8
        have hwl3 : ws3.length = cnts n' := by rw [hwT3.length, List.length_map, List.length_map, prsRs_len]
        refine ⟨p3, p4, ys8, ws3, rfl, rfl, hy11, hw3, Nat.le_of_lt (small1000 (by omega)), fun p5 hp5 => ?_⟩
        have s12 := Same.new hp5 (.lst (ys8 ++ ws3))
        refine ⟨_, p5, ys8 ++ ws3, rfl, (hs8.trans s811).trans s12, free_of' (hs8.trans s811) hp5, upd_same, ?_⟩
        rw [ptk, epr]
        have := TnAll.append (TnAll.keep (TK.of_same (s811.trans s12)) hT8) (TnAll.keep (TK.of_same s12) hwT3)
        simpa [wayR] using this
      | _ => cases hi2
  · rintro σ H1 ⟨v3, l, ys, rfl, hs, hnl, hy, hyT⟩
    rw [Int.toNat_natCast, hl, List.take_length] at hyT
    exact ⟨_, rfl, q l ys H1 hs hnl hy hyT⟩
theorem ok_prs (T : Tops w K mg) : ∀ k, FnOk P w K mg base CX0 k T.a__law_paths T.d__law_paths ["_law_rows_here", "_law_path"] (spPrs K k)
  | 0 => by
    have no : ∀ vs H Q E, ¬ spPrs K 0 vs H Q E := fun vs H Q E h => by
      obtain ⟨_, _, _, _, _, _, dep, _, _, _, _, _, _, _, h1, h2, _⟩ := h
      omega
    exact ⟨fun vs H Q E h => absurd h (no vs H Q E), fun A outer s H args us vs Q E _ _ _ _ h => absurd h (no vs H Q E)⟩
  | k + 1 => ok_prs1 T (ok_prs T k)
theorem ok_prs_all (T : Tops w K mg) (G__law_paths : FnOk P w K mg base CX0 4 T.a__law_paths T.d__law_paths ["_law_rows_here", "_law_path"] (spPrs K 4)) :
    FnOk P w K mg base CX0 5 T.a__law_all_paths T.d__law_all_paths ["_law_parts_here"] (spPrsAll K) := by
  refine T.F__law_all_paths.ok sc_law_all_paths (fun vs H Q E h => ?_) (fun cdv A outer s H vs Q E hr h => ?_)
  · obtain ⟨v, p, m, rfl, _⟩ := h
    rfl
  obtain ⟨v, p, m, rfl, hD, ok, hm, q⟩ := h
  obtain ⟨pa, aw, as, vd, ve, rfl, hP, h1, h2, h3, h4⟩ := parts_at hD
  obtain ⟨ad, xs, rfl, hA, hl, hx⟩ := pairs_at h3
  obtain ⟨ae, ys, rfl, hA2, hl2, hx2⟩ := pairs_at h4
  obtain ⟨f1, f2⟩ := few_rows ok hm
  have d6 := ok.d6
  have e4 := ok.e4
  refine ⟨_, (pss_cons (ps_set (i := 1) sc_law_all_paths.nd rfl (Or.inl rfl) (pe_lst pa_nil))
    (pss_cons (ps_for PassesOwn.never rfl (pi_range1 rfl T.z_range (pa_cons (pe_callB call_len rfl T.z_len PySem.boot_len (pa_cons (pe_ix ix_tup (pv 0) pe_int (fun _ _ => rfl)) pa_nil)) pa_nil)) (pg_name (i := 2) sc_law_all_paths.nd rfl (Or.inl rfl)) (pss_one (ps_set (i := 1) sc_law_all_paths.nd rfl (Or.inl rfl) (pe_op op_cat (pv 1) (pe_call G__law_paths (hr.mono (by omega)) rfl T.m__law_paths T.F__law_paths.kp T.b__law_paths .nil pass0 (pa_cons (pe_ix ix_tup (pe_ix ix_tup (pe_ix ix_tup (pv 0) pe_int (fun _ _ => rfl)) (pv 2) (fun _ _ => rfl)) pe_int (fun _ _ => rfl)) (pa_cons (pe_tup (pa_cons pe_str (pa_cons (pv 2) pa_nil))) pa_nil)))))))
    (pss_cons (ps_for PassesOwn.never rfl (pi_range1 rfl T.z_range (pa_cons (pe_callB call_len rfl T.z_len PySem.boot_len (pa_cons (pe_ix ix_tup (pv 0) pe_int (fun _ _ => rfl)) pa_nil)) pa_nil)) (pg_name (i := 2) sc_law_all_paths.nd rfl (Or.inl rfl)) (pss_one (ps_set (i := 1) sc_law_all_paths.nd rfl (Or.inl rfl) (pe_op op_cat (pv 1) (pe_call G__law_paths (hr.mono (by omega)) rfl T.m__law_paths T.F__law_paths.kp T.b__law_paths .nil pass0 (pa_cons (pe_ix ix_tup (pe_ix ix_tup (pe_ix ix_tup (pv 0) pe_int (fun _ _ => rfl)) (pv 2) (fun _ _ => rfl)) pe_int (fun _ _ => rfl)) (pa_cons (pe_tup (pa_cons pe_str (pa_cons (pv 2) pa_nil))) pa_nil)))))))
    (pss_one (ps_ret (pv 1)))))), ?_⟩
  refine ⟨by show 0 ≤ sizeLine; decide, fun l0 hl0 => ?_⟩
  have s1 := Same.new hl0 (.lst [])
  refine ⟨_, rfl, pa, _, 2, _, rfl, rfl, SqT.same s1 hP, rfl, .ref ad, _, rfl, .inr ⟨_, SqT.same s1 hA, rfl⟩, ((xs.length : Nat) : Int), rfl, by omega, by omega, for_range (lo := 0) (n := ((xs.length : Nat) : Int).toNat)
    (fun i σ H' => ∃ (v2 : Option V) (l : Addr) (us : List V), σ = [some (.ref pa), some (.ref l), v2] ∧ Same H H' ∧ H l = none ∧ H' l = some (.lst us) ∧ TnAll K H' us ((prsP false (p.derived.take i) 0).map prD))
    ⟨none, l0, [], rfl, s1, hl0, upd_same, by simp only [List.take_zero, prsP]; exact .nil⟩ ?_ ?_⟩
  · rintro i σ H1 hi ⟨v2, l, us, rfl, hs, hnl, hu, huT⟩
    rw [Int.toNat_natCast] at hi
    rw [show (0 : Int) + (i : Nat) = (i : Nat) by omega]
    have hix : xs[i]? = some xs[i] := List.getElem?_eq_getElem hi
    obtain ⟨qq, b, vr, hq, ex, hB, hT⟩ := hx i _ hix
    rw [ex] at hix
    have p1 := prsP_len (e := false) (ps := p.derived.take i) (k := 0) (fun q hq => f1 q (List.mem_of_mem_take hq))
    have p2 := huT.length
    rw [List.length_map] at p2
    rw [List.length_take] at p1
    refine ⟨_, rfl, _, rfl, pa, _, 2, _, rfl, rfl, SqT.same hs hP, rfl, _, rfl, ad, _, (i : Nat), .ref b, rfl, rfl, SqT.same hs hA, atI_nat hix, b, _, 1, _, rfl, rfl, SqT.same hs hB, rfl, _, rfl, by show 2 ≤ sizeLine; decide, fun tb htb => ?_⟩
    have s12 := Same.new htb (.tup [.str "derived", .int (i : Nat)])
    have hcq := f1 qq (List.mem_of_getElem? hq)
    refine ⟨vr, tb, false, i, [], _, 1, qq.2, rfl, Tn.same (hs.trans s12) hT, SqT.of upd_same, by show 0 ≤ 2; decide, (okDer_get ok.der hq).1, by omega, by omega, by omega, fun p2 ws H3 s3 hp2 hw hwT => ?_⟩
    have s13 := s12.trans s3
    have hu3 := s13 _ _ hu
    have hwl : ws.length = cnts qq.2 := by rw [hwT.length, List.length_map, List.length_map, prsRs_len]
    refine ⟨l, p2, us, ws, rfl, rfl, hu3, hw, Nat.le_of_lt (small1000 (by omega)), fun p3 hp3 => ?_⟩
    have s34 := Same.new hp3 (.lst (us ++ ws))
    refine ⟨_, p3, us ++ ws, rfl, (hs.trans s13).trans s34, free_of' (hs.trans s13) hp3, upd_same, ?_⟩
    rw [prsP_take hq, List.map_append]
    exact TnAll.append (TnAll.keep (TK.of_same (s13.trans s34)) huT) (TnAll.keep (TK.of_same s34) hwT)
  · rintro σ H1 ⟨v2, l, us, rfl, hs, hnl, hu, huT⟩
    rw [Int.toNat_natCast, hl, List.take_length] at huT
    have pd1 := prsP_len (e := false) (k := 0) f1
    refine ⟨_, rfl, pa, _, 3, _, rfl, rfl, SqT.same hs hP, rfl, .ref ae, _, rfl, .inr ⟨_, SqT.same hs hA2, rfl⟩, ((ys.length : Nat) : Int), rfl, by omega, by omega, for_range (lo := 0) (n := ((ys.length : Nat) : Int).toNat)
      (fun i σ H' => ∃ (v2 : Option V) (l : Addr) (us : List V), σ = [some (.ref pa), some (.ref l), v2] ∧ Same H H' ∧ H l = none ∧ H' l = some (.lst us) ∧ TnAll K H' us ((prsP false p.derived 0).map prD ++ (prsP true (p.effects.take i) 0).map prD))
      ⟨v2, l, us, rfl, hs, hnl, hu, by simpa only [List.take_zero, prsP, List.map_nil, List.append_nil] using huT⟩ ?_ ?_⟩
    · rintro i σ H1 hi ⟨v2, l, us, rfl, hs, hnl, hu, huT⟩
      rw [Int.toNat_natCast] at hi
      rw [show (0 : Int) + (i : Nat) = (i : Nat) by omega]
      have hix : ys[i]? = some ys[i] := List.getElem?_eq_getElem hi
      obtain ⟨qq, b, vr, hq, ex, hB, hT⟩ := hx2 i _ hix
      rw [ex] at hix
      have p1 := prsP_len (e := true) (ps := p.effects.take i) (k := 0) (fun q hq => f2 q (List.mem_of_mem_take hq))
      have p2 := huT.length
      rw [List.length_append, List.length_map, List.length_map] at p2
      rw [List.length_take] at p1
      refine ⟨_, rfl, _, rfl, pa, _, 3, _, rfl, rfl, SqT.same hs hP, rfl, _, rfl, ae, _, (i : Nat), .ref b, rfl, rfl, SqT.same hs hA2, atI_nat hix, b, _, 1, _, rfl, rfl, SqT.same hs hB, rfl, _, rfl, by show 2 ≤ sizeLine; decide, fun tb htb => ?_⟩
      have s12 := Same.new htb (.tup [.str "effects", .int (i : Nat)])
      have hcq := f2 qq (List.mem_of_getElem? hq)
      refine ⟨vr, tb, true, i, [], _, 1, qq.2, rfl, Tn.same (hs.trans s12) hT, SqT.of upd_same, by show 0 ≤ 2; decide, (okEff_get ok.eff hq).1, by omega, by omega, by omega, fun p2 ws H3 s3 hp2 hw hwT => ?_⟩
      have s13 := s12.trans s3
      have hu3 := s13 _ _ hu
      have hwl : ws.length = cnts qq.2 := by rw [hwT.length, List.length_map, List.length_map, prsRs_len]
      refine ⟨l, p2, us, ws, rfl, rfl, hu3, hw, Nat.le_of_lt (small1000 (by omega)), fun p3 hp3 => ?_⟩
      have s34 := Same.new hp3 (.lst (us ++ ws))
      refine ⟨_, p3, us ++ ws, rfl, (hs.trans s13).trans s34, free_of' (hs.trans s13) hp3, upd_same, ?_⟩
      rw [prsP_take hq, List.map_append, ← List.append_assoc]
      exact TnAll.append (TnAll.keep (TK.of_same (s13.trans s34)) huT) (TnAll.keep (TK.of_same s34) hwT)
    · rintro σ H1 ⟨v2, l, us, rfl, hs, hnl, hu, huT⟩
      rw [Int.toNat_natCast, hl2, List.take_length] at huT
      exact ⟨_, rfl, q l us H1 hs hnl hu (by unfold prsAll; rw [List.map_append]; exact huT)⟩
end
end K77
namespace K77
open PySem PySem.Spec PyProof.Rows L2 Td
/-- the changes at a row -/
def chsOf (c : Way × Td.Row) : List (Bool × Way) := if isRdO (some c.2) then (if c.1.e then [(true, c.1)] else []) ++ [(false, c.1)] else []
def chsAll (p : PP) : List (Bool × Way) := (prsAll p).flatMap chsOf
theorem chsOf_at {c : Way × Td.Row} {d : Bool × Way} (h : d ∈ chsOf c) : d.2 = c.1 ∧ (∃ x s, c.2 = .rd false x s) ∧ (d.1 = true → c.1.e = true) := by
  unfold chsOf at h
  split at h
  · rename_i hr
    refine ⟨?_, ?_, ?_⟩
    · rcases List.mem_append.mp h with h | h
      · split at h
        · rw [List.mem_singleton.mp h]
        · cases h
      · rw [List.mem_singleton.mp h]
    · obtain ⟨a, r⟩ := c
      cases r with
      | rd pk x s =>
        cases pk with
        | false => exact ⟨x, s, rfl⟩
        | true => cases hr
      | _ => cases hr
    · intro hd
      rcases List.mem_append.mp h with h | h
      · split at h
        · rename_i he; exact he
        · cases h
      · rw [List.mem_singleton.mp h] at hd; cases hd
  · cases h
theorem chsOf_len (c : Way × Td.Row) : (chsOf c).length ≤ 2 := by unfold chsOf; split <;> (try split) <;> simp
theorem chsOf_nd (c : Way × Td.Row) : (chsOf c).Nodup := by unfold chsOf; split <;> (try split) <;> simp
theorem chs_len : ∀ l : List (Way × Td.Row), (l.flatMap chsOf).length ≤ 2 * l.length
  | [] => by simp
  | c :: l => by
    have h1 := chsOf_len c
    have h2 := chs_len l
    rw [List.flatMap_cons, List.length_append, List.length_cons]
    omega
theorem chs_nd : ∀ l : List (Way × Td.Row), (l.map (·.1)).Nodup → (l.flatMap chsOf).Nodup
  | [], _ => by simp
  | c :: l, h => by
    rw [List.map_cons, List.nodup_cons] at h
    rw [List.flatMap_cons, List.nodup_append]
    refine ⟨chsOf_nd c, chs_nd l h.2, fun a ha b hb e => ?_⟩
    obtain ⟨d, hd, hb⟩ := List.mem_flatMap.mp hb
    have h1 := (chsOf_at ha).1
    have h2 := (chsOf_at hb).1
    rw [e, h2] at h1
    exact h.1 (List.mem_map.mpr ⟨d, hd, h1⟩)
theorem chsAll_ok {p : PP} {m : Nat} (ok : p.Ok m) {L : List (Bool × Way)} (h : ∀ c ∈ L, c ∈ chsAll p) : ChOk p L ∧ ∀ c ∈ L, c.2.st.length ≤ 2 * m := by
  refine ⟨⟨fun c hc => ?_, fun c hc hk => ?_⟩, fun c hc => ?_⟩
  · obtain ⟨d, hd, hcd⟩ := List.mem_flatMap.mp (h c hc)
    obtain ⟨e1, ⟨x, s, e2⟩, _⟩ := chsOf_at hcd
    obtain ⟨q, h1, h2, _⟩ := prsAll_at ok hd
    rw [e1]
    exact ⟨q, x, s, h1, by rw [h2, e2]⟩
  · obtain ⟨d, hd, hcd⟩ := List.mem_flatMap.mp (h c hc)
    obtain ⟨e1, _, e3⟩ := chsOf_at hcd
    rw [e1]
    exact e3 hk
  · obtain ⟨d, hd, hcd⟩ := List.mem_flatMap.mp (h c hc)
    obtain ⟨q, h1, h2, h3⟩ := prsAll_at ok hd
    rw [(chsOf_at hcd).1]
    exact h3
theorem pr_tn {K : PySem.W.Frag} {H : Hp} {v : V} {c : Way × Td.Row} (h : Tn K H v (prD c)) : ∃ t b vr, v = .ref t ∧ SqT K H t [.ref b, vr] ∧ SqT K H b c.1.vs ∧ Tn K H vr (rowD c.2) := by
  obtain ⟨t, xs, rfl, hS, hT⟩ := Tn.tup_inv h
  cases hT with
  | cons a1 a2 =>
    cases a2 with
    | cons a3 a4 =>
      cases a4
      obtain ⟨b, rfl, hB⟩ := Way.inv a1
      exact ⟨t, b, _, rfl, hS, hB, a3⟩
theorem tn_erase {K : PySem.W.Frag} {H : Hp} : ∀ {xs : List V} {ds : List PyData} (k : Nat), TnAll K H xs ds → TnAll K H (xs.eraseIdx k) (ds.eraseIdx k)
  | _, _, _, .nil => .nil
  | _, _, 0, .cons _ b => b
  | _, _, k + 1, .cons a b => .cons a (tn_erase k b)
theorem erase_map {α β : Type} (f : α → β) : ∀ (l : List α) (k : Nat), (l.map f).eraseIdx k = (l.eraseIdx k).map f
  | [], k => rfl
  | x :: l, 0 => rfl
  | x :: l, k + 1 => by show f x :: (l.map f).eraseIdx k = _; rw [erase_map f l k]; rfl
theorem perm_erase {α : Type} : ∀ (l : List α) (k : Nat) {c : α}, l[k]? = some c → List.Perm l (c :: l.eraseIdx k)
  | [], k, c, h => by simp at h
  | x :: l, 0, c, h => by cases h; exact List.Perm.refl _
  | x :: l, k + 1, c, h => ((perm_erase l k (by simpa using h)).cons x).trans (List.Perm.swap ..)
def spLawChs (K : PySem.W.Frag) : Sp := fun vs H Q _ => ∃ (v : V) (p : PP) (m : Nat), vs = [v] ∧ Tn K H v p.data ∧ p.Ok m ∧ m ≤ 16 ∧
  ∀ (l : Addr) (cs : List V) H', Same H H' → H l = none → H' l = some (.lst cs) → TnAll K H' cs ((chsAll p).map chgD) → Q (.ref l) H'
def spChosen (K : PySem.W.Frag) : Sp := fun vs H Q _ => ∃ (st sc l0 : Addr) (cs : List V) (L0 : List (Bool × Way)) (n : Nat), vs = [.ref st, .ref l0, .int (n : Nat)] ∧ StOk H st sc ∧ l0 ≠ st ∧ H l0 = some (.lst cs) ∧ TnAll K H cs (L0.map chgD) ∧ L0.Nodup ∧ L0.length ≤ 400 ∧ n ≤ 12 ∧
  ∀ (l : Addr) (cs : List V) (L : List (Bool × Way)) H', Keep st H H' → StOk H' st sc → l ≠ st → H' l = some (.lst cs) → TnAll K H' cs (L.map chgD) → L.Nodup → (∀ c ∈ L, c ∈ L0) → L.length ≤ 12 → Q (.ref l) H'
/-- rows of words of the sources -/
def RowsOk (p : PP) (n : Nat) (R : List (List Str)) : Prop := ∀ ws ∈ R, ws.length = n ∧ ∀ z ∈ ws, z ∈ p.words
def spStarts (K : PySem.W.Frag) : Sp := fun vs H Q _ => ∃ (v : V) (p : PP) (m : Nat), vs = [v] ∧ Tn K H v p.data ∧ p.Ok m ∧
  ∀ (l : Addr) (cs : List V) (R : List (List Str)) H', Same H H' → H l = none → H' l = some (.lst cs) → TnAll K H' cs (R.map strsD) → RowsOk p p.sources.length R → Q (.ref l) H'
theorem strs_tn {K : PySem.W.Frag} {H : Hp} {v : V} {ws : List Str} (h : Tn K H v (strsD ws)) : ∃ a, v = .ref a ∧ SqT K H a (ws.map V.str) := by
  obtain ⟨a, xs, rfl, hS, hT⟩ := Tn.tup_inv h
  have inv : ∀ {ws : List Str} {xs : List V}, TnAll K H xs (ws.map PyData.str) → xs = ws.map V.str := by
    intro ws
    induction ws with
    | nil => intro xs h; cases h; rfl
    | cons z r ih => intro xs h; cases h with | cons a b => cases a; rw [ih b]; rfl
  rw [inv hT] at hS
  exact ⟨a, rfl, hS⟩
section
variable {P : Program} {w : World} {K : PySem.W.Frag} {mg : Str → Option Value} {base : Heap}
theorem ok_law_chs (T : Tops w K mg) (G__law_all_paths : FnOk P w K mg base CX0 5 T.a__law_all_paths T.d__law_all_paths ["_law_parts_here"] (spPrsAll K)) :
    FnOk P w K mg base CX0 6 T.a__law_changes T.d__law_changes ["_law_parts_here"] (spLawChs K) := by
  refine T.F__law_changes.ok sc_law_changes (fun vs H Q E h => ?_) (fun cdv A outer s H vs Q E hr h => ?_)
  · obtain ⟨v, p, m, rfl, _⟩ := h
    rfl
  obtain ⟨v, p, m, rfl, hD, ok, hm, q⟩ := h
  refine ⟨_, (pss_cons (ps_set (i := 1) sc_law_changes.nd rfl (Or.inl rfl) (pe_lst pa_nil))
    (pss_cons (ps_for PassesOwn.never rfl (pi_list (pe_call G__law_all_paths (hr.mono (by omega)) rfl T.m__law_all_paths T.F__law_all_paths.kp T.b__law_all_paths .nil pass0 (pa_cons (pv 0) pa_nil))) (pg_name (i := 2) sc_law_changes.nd rfl (Or.inl rfl)) (pss_one (ps_if (pt_cmpR op_eq (pe_ix ix_tup (pe_ix ix_tup (pv 2) pe_int (fun _ _ => rfl)) pe_int (fun _ _ => rfl)) pe_str (nomark _)) (C8.pss_cut (ps_if (pt_cmpR op_eq (pe_ix ix_tup (pe_ix ix_tup (pv 2) pe_int (fun _ _ => rfl)) pe_int (fun _ _ => rfl)) pe_str (nomark _)) (pss_one (ps_expr (pe_bm PySem.F.plainAttrs_list PySem.F.slot_list_append PySem.F.type_list_append mt_append (pv 1) (pa_cons (pe_tup (pa_cons pe_str (pa_cons (pe_ix ix_tup (pv 2) pe_int (fun _ _ => rfl)) pa_nil))) pa_nil)))) pss_nil)
    (pss_one (ps_expr (pe_bm PySem.F.plainAttrs_list PySem.F.slot_list_append PySem.F.type_list_append mt_append (pv 1) (pa_cons (pe_tup (pa_cons pe_str (pa_cons (pe_ix ix_tup (pv 2) pe_int (fun _ _ => rfl)) pa_nil))) pa_nil))))) pss_nil)))
    (pss_one (ps_ret (pv 1))))), ?_⟩
  refine ⟨by show 0 ≤ sizeLine; decide, fun g hg0 => ?_⟩
  have s1 := Same.new hg0 (.lst [])
  refine ⟨_, rfl, v, p, m, rfl, Tn.same s1 hD, ok, hm, fun l xs H2 s2 nl hl hX => ?_⟩
  have eg := s2 _ _ (upd_same : upd H g (.lst []) g = some (.lst []))
  have s12 := s1.trans s2
  have lg : l ≠ g := fun e => by rw [e] at nl; rw [upd_same] at nl; cases nl
  have pl := prsAll_len ok hm
  generalize upd H g (.lst []) = H1 at s1 s2 nl
  refine ⟨l, rfl, ⟨_, SqL.of hl⟩, for_list (K := K) (a := l) (xs := xs) (fun i σ H' => ∃ (v2 : Option V) (us : List V), σ = [some v, some (.ref g), v2] ∧ Same H H' ∧ TK H2 H' ∧ H' l = some (.lst xs) ∧ H' g = some (.lst us) ∧ TnAll K H' us ((((prsAll p).take i).flatMap chsOf).map chgD))
    ⟨none, [], rfl, s12, TK.refl _, hl, eg, .nil⟩ (fun i σ H' _ ⟨_, _, _, _, _, h, _⟩ => SqL.of h) ?_ ?_⟩
  · rintro i x σ H3 hx ⟨v2, us, rfl, s3, tk3, hl3, hg3, hU⟩
    obtain ⟨d, hd1, hd2⟩ := TnAll.get hX hx
    rw [List.getElem?_map] at hd1
    obtain ⟨c, hc, rfl⟩ := Option.map_eq_some_iff.mp hd1
    obtain ⟨t, b, vr, rfl, hT, hB, hR⟩ := pr_tn (Tn.keep tk3 hd2)
    have ec : ((prsAll p).take (i + 1)).flatMap chsOf = ((prsAll p).take i).flatMap chsOf ++ chsOf c := by rw [take_more hc, List.flatMap_append]; simp
    have ul : us.length ≤ 320 := by
      have h1 := hU.length
      rw [List.length_map] at h1
      have h2 := chs_len ((prsAll p).take i)
      have h3 : ((prsAll p).take i).length ≤ 160 := by rw [List.length_take]; omega
      omega
    obtain ⟨ra, zs, rfl, hRa, hz0⟩ := row_at (Tn.dp hR)
    refine ⟨_, rfl, t, _, 1, _, rfl, rfl, hT, rfl, ra, _, 0, _, rfl, rfl, hRa, atI_nat (j := 0) hz0, rfl, _, rfl, ?_⟩
    rw [tag_read]
    cases hr : isRdO (some c.2) with
    | false =>
      refine if_false_of rfl ?_
      refine ⟨_, us, rfl, s3, tk3, hl3, hg3, ?_⟩
      rw [ec, show chsOf c = [] by unfold chsOf; rw [hr]; rfl, List.append_nil]
      exact hU
    | true =>
      refine if_true_of rfl ?_
      have a0 : atI c.1.vs 0 = some (.str (kdW c.1.e)) := atI_nat (j := 0) rfl
      refine ⟨fun σ' H' => ∃ us' : List V, σ' = [some v, some (.ref g), some (.ref t)] ∧ Same H H' ∧ TK H3 H' ∧ H' l = some (.lst xs) ∧ H' g = some (.lst us') ∧ us'.length ≤ 321 ∧ TnAll K H' us' ((((prsAll p).take i).flatMap chsOf ++ (if c.1.e then [(true, c.1)] else [])).map chgD), ?_, ?_⟩
      · refine ⟨_, rfl, t, _, 0, _, rfl, rfl, hT, rfl, b, _, 0, _, rfl, rfl, hB, a0, rfl, _, rfl, ?_⟩
        cases he : c.1.e with
        | false =>
          refine if_false_of (by decide +kernel) ?_
          exact ⟨us, rfl, s3, TK.refl _, hl3, hg3, by omega, by simpa using hU⟩
        | true =>
          refine if_true_of (by decide +kernel) ?_
          refine ⟨_, rfl, .inl ⟨rfl, _, SqL.of hg3⟩, ?_⟩
          refine ⟨_, rfl, t, _, 0, _, rfl, rfl, hT, rfl, by show 2 ≤ sizeLine; decide, fun t2 ht2 => ?_⟩
          have z := Same.new ht2 (.tup [V.str "peek", .ref b])
          have hgz := z _ _ hg3
          have hcz : Tn K (upd H3 t2 (.tup [V.str "peek", .ref b])) (.ref t2) (chgD (true, c.1)) := .tup (SqT.of upd_same) (.cons (.str _) (.cons (Way.tn (SqT.same z hB)) .nil))
          refine ⟨g, us, _, rfl, rfl, hgz, small1000 (by omega), ?_⟩
          have tk := TK.upd (p := g) (H := upd H3 t2 (.tup [V.str "peek", .ref b])) (o := .lst (us ++ [.ref t2])) (by rw [hgz]; trivial)
          refine ⟨us ++ [.ref t2], rfl, Same.own (s3.trans z) hg0, (TK.of_same z).trans tk, ?_, upd_same, by rw [List.length_append]; show us.length + 1 ≤ 321; omega, ?_⟩
          · rw [upd_ne lg]; exact z _ _ hl3
          · rw [if_pos rfl, List.map_append]
            exact TnAll.append (TnAll.keep ((TK.of_same z).trans tk) hU) (TnAll.one (Tn.keep tk hcz))
      rintro σ' H4 ⟨us', rfl, s4, tk4, hl4, hg4, ul4, hU4⟩
      have hT4 := SqT.tk tk4 hT
      have hB4 := SqT.tk tk4 hB
      refine ⟨_, rfl, .inl ⟨rfl, _, SqL.of hg4⟩, ?_⟩
      refine ⟨_, rfl, t, _, 0, _, rfl, rfl, hT4, rfl, by show 2 ≤ sizeLine; decide, fun t2 ht2 => ?_⟩
      have z := Same.new ht2 (.tup [V.str "early", .ref b])
      have hgz := z _ _ hg4
      have hcz : Tn K (upd H4 t2 (.tup [V.str "early", .ref b])) (.ref t2) (chgD (false, c.1)) := .tup (SqT.of upd_same) (.cons (.str _) (.cons (Way.tn (SqT.same z hB4)) .nil))
      refine ⟨g, us', _, rfl, rfl, hgz, small1000 (by omega), ?_⟩
      have tk := TK.upd (p := g) (H := upd H4 t2 (.tup [V.str "early", .ref b])) (o := .lst (us' ++ [.ref t2])) (by rw [hgz]; trivial)
      refine ⟨_, us' ++ [.ref t2], rfl, Same.own (s4.trans z) hg0, ((tk3.trans tk4).trans (TK.of_same z)).trans tk, ?_, upd_same, ?_⟩
      · rw [upd_ne lg]; exact z _ _ hl4
      · rw [ec, show chsOf c = (if c.1.e then [(true, c.1)] else []) ++ [(false, c.1)] by unfold chsOf; rw [hr]; rfl, ← List.append_assoc, List.map_append]
        exact TnAll.append (TnAll.keep ((TK.of_same z).trans tk) hU4) (TnAll.one (Tn.keep tk hcz))
  · rintro σ H3 ⟨v2, us, rfl, s3, tk3, hl3, hg3, hU⟩
    have xl : xs.length = (prsAll p).length := by have := hX.length; rwa [List.length_map] at this
    rw [xl, List.take_length] at hU
    exact ⟨_, rfl, q g us H3 s3 hg0 hg3 hU⟩
theorem ok_chosen (T : Tops w K mg) (G__law_draw : FnOk P w K mg base CX0 1 T.a__law_draw T.d__law_draw ["_law_state_here", "_law_many_here"] spDraw) :
    FnOk P w K mg base CX0 2 T.a__law_chosen T.d__law_chosen ["_law_state_here", "_law_rows_here", "_law_many_here"] (spChosen K) := by
  refine T.F__law_chosen.ok sc_law_chosen (fun vs H Q E h => ?_) (fun cdv A outer s H vs Q E hr h => ?_)
  · obtain ⟨st, sc, l0, cs, L0, n, rfl, _⟩ := h
    rfl
  obtain ⟨st, sc, l0, cs, L0, n, rfl, o, n0, hl0, hC, nd, ll, n6, q⟩ := h
  refine ⟨_, (pss_cons (ps_set (i := 3) sc_law_chosen.nd rfl (Or.inl rfl) (pe_callTy call_list_of rfl T.z_list (by decide +kernel) (pa_cons (pv 1) pa_nil)))
    (pss_cons (ps_set (i := 4) sc_law_chosen.nd rfl (Or.inl rfl) (pe_lst pa_nil))
    (pss_cons (ps_for PassesOwn.never rfl (pi_range1 rfl T.z_range (pa_cons (pv 2) pa_nil)) (pg_name (i := 5) sc_law_chosen.nd rfl (Or.inl rfl)) (pss_one (ps_if (pt_cmpR op_gt (pe_callB call_len rfl T.z_len PySem.boot_len (pa_cons (pv 3) pa_nil)) pe_int (nomark _)) (pss_one (ps_expr (pe_bm PySem.F.plainAttrs_list PySem.F.slot_list_append PySem.F.type_list_append mt_append (pv 4) (pa_cons (pe_bm PySem.F.plainAttrs_list PySem.F.slot_list_pop PySem.F.type_list_pop mt_popAt (pv 3) (pa_cons (pe_call G__law_draw (hr.mono (by omega)) rfl T.m__law_draw T.F__law_draw.kp T.b__law_draw .nil pass0 (pa_cons (pv 0) (pa_cons (pe_callB call_len rfl T.z_len PySem.boot_len (pa_cons (pv 3) pa_nil)) pa_nil))) pa_nil)) pa_nil)))) pss_nil)))
    (pss_one (ps_ret (pv 4)))))), ?_⟩
  refine ⟨_, rfl, l0, cs, rfl, .inl (SqL.of hl0), fun rr hrr0 => ?_⟩
  have s1 := Same.new hrr0 (.lst cs)
  refine ⟨by show 0 ≤ sizeLine; decide, fun g hg0 => ?_⟩
  have s2 := Same.new hg0 (.lst [])
  have s12 := s1.trans s2
  have er := s2 _ _ (upd_same : upd H rr (.lst cs) rr = some (.lst cs))
  have rg : rr ≠ g := fun e => by rw [← e, upd_same] at hg0; cases hg0
  have fg : H g = none := free_of' s1 hg0
  have eg : upd (upd H rr (.lst cs)) g (.lst []) g = some (.lst []) := upd_same
  have nrs := (o.ne hrr0)
  have ngs := (o.ne fg)
  generalize upd (upd H rr (.lst cs)) g (.lst []) = H2 at s12 s2 er eg
  refine ⟨_, rfl, _, rfl, by omega, by omega, for_range (lo := 0) (n := ((n : Nat) : Int).toNat)
    (fun i σ H' => ∃ (v5 : Option V) (rs us : List V) (R L : List (Bool × Way)), σ = [some (.ref st), some (.ref l0), some (.int (n : Nat)), some (.ref rr), some (.ref g), v5] ∧ Keep st H H' ∧ StOk H' st sc ∧ H' rr = some (.lst rs) ∧ TnAll K H' rs (R.map chgD) ∧ H' g = some (.lst us) ∧ TnAll K H' us (L.map chgD) ∧ (L ++ R).Nodup ∧ (∀ c ∈ L ++ R, c ∈ L0) ∧ L.length ≤ i ∧ R.length ≤ 400)
    ⟨none, cs, [], L0, [], rfl, Same.keep s12 st, stGo o s12, er, TnAll.keep (TK.of_same s12) hC, eg, .nil, nd, (fun _ h => h), Nat.le_refl _, ll⟩ ?_ ?_⟩
  · rintro i σ H3 hi ⟨v5, rs, us, R, L, rfl, k3, o3, hr3, hR, hg3, hL, nd3, sub, li, rl⟩
    have rsl : rs.length = R.length := by have := hR.length; rwa [List.length_map] at this
    have usl : us.length = L.length := by have := hL.length; rwa [List.length_map] at this
    rw [Int.toNat_natCast] at hi
    refine ⟨_, rfl, .ref rr, _, rfl, .inl ⟨_, SqL.of hr3, rfl⟩, _, _, rfl, rfl, _, rfl, ?_⟩
    by_cases h0 : rs.length = 0
    · refine if_false_of (decide_eq_false (by omega)) ?_
      exact ⟨_, rs, us, R, L, rfl, k3, o3, hr3, hR, hg3, hL, nd3, sub, by omega, rl⟩
    refine if_true_of (decide_eq_true (by omega)) ?_
    refine ⟨_, rfl, .inl ⟨rfl, _, SqL.of hg3⟩, ?_⟩
    refine ⟨_, rfl, .inl ⟨rfl, _, SqL.of hr3⟩, ?_⟩
    refine ⟨_, rfl, _, rfl, .ref rr, _, rfl, .inl ⟨_, SqL.of hr3, rfl⟩, st, sc, _, rfl, by omega, by omega, o3, fun r H4 r0 r1 k4 o4 _ => ?_⟩
    have tk4 := TK.of_keep k4 o3.chg
    have hr4 := k4 _ _ nrs.1 hr3
    have hg4 := k4 _ _ ngs.1 hg3
    obtain ⟨y, hy0⟩ : ∃ y, rs[r.toNat]? = some y := ⟨_, List.getElem?_eq_getElem (by omega)⟩
    have at2 : atI rs r = some y := by
      have : r = ((r.toNat : Nat) : Int) := by omega
      rw [this]
      exact atI_nat hy0
    obtain ⟨k, hk, hy, kl, _⟩ := atI_get at2
    obtain ⟨d, hd1, hd2⟩ := TnAll.get (TnAll.keep tk4 hR) hy
    rw [List.getElem?_map] at hd1
    obtain ⟨c, hc, rfl⟩ := Option.map_eq_some_iff.mp hd1
    refine ⟨rr, rs, r, k, y, rfl, rfl, hr4, by omega, by omega, hk, hy, ?_⟩
    have tk5 : TK H4 (upd H4 rr (.lst (rs.eraseIdx k))) := TK.upd (by rw [hr4]; trivial)
    have hg5 : upd H4 rr (.lst (rs.eraseIdx k)) g = some (.lst us) := by rw [upd_ne (Ne.symm rg)]; exact hg4
    have hr5 : upd H4 rr (.lst (rs.eraseIdx k)) rr = some (.lst (rs.eraseIdx k)) := upd_same
    have k5 : Keep st H (upd H4 rr (.lst (rs.eraseIdx k))) := (k3.trans k4).own hrr0
    have o5 : StOk (upd H4 rr (.lst (rs.eraseIdx k))) st sc := o4.other nrs.1 nrs.2
    generalize upd H4 rr (.lst (rs.eraseIdx k)) = H5 at tk5 hg5 hr5 k5 o5
    refine ⟨g, us, y, rfl, rfl, hg5, small1000 (by omega), ?_⟩
    have tk6 : TK H5 (upd H5 g (.lst (us ++ [y]))) := TK.upd (by rw [hg5]; trivial)
    have tk36 := (tk4.trans tk5).trans tk6
    have pm : List.Perm (L ++ R) ((L ++ [c]) ++ R.eraseIdx k) := by
      rw [List.append_assoc]
      exact List.Perm.append_left L (perm_erase R k hc)
    refine ⟨_, rs.eraseIdx k, us ++ [y], R.eraseIdx k, L ++ [c], rfl, k5.own fg, o5.other ngs.1 ngs.2, ?_, ?_, upd_same, ?_, ?_, ?_, ?_, ?_⟩
    · rw [upd_ne rg]; exact hr5
    · have := tn_erase k (TnAll.keep tk36 hR)
      rw [erase_map] at this
      exact this
    · rw [List.map_append]
      exact TnAll.append (TnAll.keep tk36 hL) (TnAll.one (Tn.keep (tk5.trans tk6) hd2))
    · exact pm.nodup_iff.mp nd3
    · exact fun c hc => sub c (pm.mem_iff.mpr hc)
    · rw [List.length_append]; show L.length + 1 ≤ i + 1; omega
    · exact Nat.le_trans (List.length_eraseIdx_le ..) rl
  · rintro σ H3 ⟨v5, rs, us, R, L, rfl, k3, o3, hr3, hR, hg3, hL, nd3, sub, li, rl⟩
    rw [Int.toNat_natCast] at li
    exact ⟨_, rfl, q g us L H3 k3 o3 ngs.1 hg3 hL (List.nodup_append.mp nd3).1 (fun c hc => sub c (List.mem_append_left _ hc)) (by omega)⟩
end
end K77
namespace K77
open PySem PySem.Spec PyProof.Rows L2 Td
/-! ### the slot that is free, looked for from behind -/
def backG (ns : List Str) (i : Nat) : Str := (((List.range' (26 - i) i).filter fun k => decide (letA k ∉ ns)).map letA).headD ""
theorem backG_more (ns : List Str) {i : Nat} (h : i < 26) : backG ns (i + 1) = if letA (25 - i) ∈ ns then backG ns i else letA (25 - i) := by
  unfold backG
  have e : List.range' (26 - (i + 1)) (i + 1) = (25 - i) :: List.range' (26 - i) i := by
    rw [List.range'_succ, show 26 - (i + 1) = 25 - i by omega, show 25 - i + 1 = 26 - i by omega]
  rw [e]
  by_cases hz : letA (25 - i) ∈ ns
  · simp only [List.filter_cons]
    rw [if_pos hz, if_neg (by rw [decide_eq_true_eq]; exact fun z => z hz)]
  · simp only [List.filter_cons]
    rw [if_neg hz, if_pos (decide_eq_true hz)]
    rfl
theorem backG_all (ns : List Str) : backG ns 26 = (freshG ns 26).headD "" := by
  unfold backG freshG
  rw [List.range_eq_range']
def ba26 : Str := "zyxwvutsrqponmlkjihgfedcba"
theorem ba_at : ∀ i, i < 26 → ba26.cps[i]? = some (97 + (25 - i)) := by decide +kernel
theorem ba_len : ba26.cps.size = 26 := by decide +kernel
mutual
theorem prs_slR : ∀ (r : Td.Row) (pb : List Int) (i : Nat), (prsR r pb i).map (fun c => slotR c.2) = slotsR r
  | .ite s u y n, pb, i => by
    simp only [prsR, slotsR, List.map_cons, List.map_append, prs_slRs y, prs_slRs n]
    rfl
  | .rd .., pb, i => by simp [prsR, slotsR, slotR]
  | .put .., pb, i => by simp [prsR, slotsR, slotR]
  | .give .., pb, i => by simp [prsR, slotsR, slotR]
  | .say .., pb, i => by simp [prsR, slotsR, slotR]
  | .wr .., pb, i => by simp [prsR, slotsR, slotR]
theorem prs_slRs : ∀ (rs : List Td.Row) (pb : List Int) (k : Nat), (prsRs rs pb k).map (fun c => slotR c.2) = slotsRs rs
  | [], pb, k => by simp [prsRs, slotsRs]
  | r :: rs, pb, k => by simp only [prsRs, slotsRs, List.map_append, prs_slR r, prs_slRs rs]
end
/-- a row's slot, where it stands -/
theorem slot_two {K : PySem.W.Frag} {H : Hp} {v : V} {r : Td.Row} (h : Tn K H v (rowD r)) : ∃ (a : Addr) (zs : List V) (b : Bool), v = .ref a ∧ SqT K H a zs ∧ atI zs 0 = some (.str (rowTag r)) ∧ inV (.str (rowTag r)) ((["read", "peek", "write"] : List Str).map V.str) = b ∧ atI zs (if b then 2 else 1) = some (.str (slotR r)) := by
  cases r with
  | rd pk c s =>
    obtain ⟨a, rfl, hS⟩ := rd_tn h
    exact ⟨a, _, true, rfl, hS, atI_nat (j := 0) rfl, by
      cases pk
      · exact (inV_strs _ _).trans (show decide (("read" : Str) ∈ (["read", "peek", "write"] : List Str)) = true by decide +kernel)
      · exact (inV_strs _ _).trans (show decide (("peek" : Str) ∈ (["read", "peek", "write"] : List Str)) = true by decide +kernel), atI_nat (j := 2) rfl⟩
  | ite s u y n =>
    obtain ⟨a, vy, vn, rfl, hS, _, _⟩ := ite_tn h
    exact ⟨a, _, false, rfl, hS, atI_nat (j := 0) rfl, (inV_strs _ _).trans (show decide (("if" : Str) ∈ (["read", "peek", "write"] : List Str)) = false by decide +kernel), atI_nat (j := 1) rfl⟩
  | put s u =>
    unfold rowD at h
    obtain ⟨a, xs, rfl, hS, hT⟩ := Tn.tup_inv h
    cases hT with | cons h1 r => cases h1; cases r with | cons h2 r => cases h2; cases r with | cons h3 r => cases h3; cases r; exact ⟨a, _, false, rfl, hS, atI_nat (j := 0) rfl, (inV_strs _ _).trans (show decide (("put" : Str) ∈ (["read", "peek", "write"] : List Str)) = false by decide +kernel), atI_nat (j := 1) rfl⟩
  | wr c s =>
    unfold rowD at h
    obtain ⟨a, xs, rfl, hS, hT⟩ := Tn.tup_inv h
    cases hT with | cons h1 r => cases h1; cases r with | cons h2 r => cases h2; cases r with | cons h3 r => cases h3; cases r; exact ⟨a, _, true, rfl, hS, atI_nat (j := 0) rfl, (inV_strs _ _).trans (show decide (("write" : Str) ∈ (["read", "peek", "write"] : List Str)) = true by decide +kernel), atI_nat (j := 2) rfl⟩
  | give s =>
    unfold rowD at h
    obtain ⟨a, xs, rfl, hS, hT⟩ := Tn.tup_inv h
    cases hT with | cons h1 r => cases h1; cases r with | cons h2 r => cases h2; cases r; exact ⟨a, _, false, rfl, hS, atI_nat (j := 0) rfl, (inV_strs _ _).trans (show decide (("give" : Str) ∈ (["read", "peek", "write"] : List Str)) = false by decide +kernel), atI_nat (j := 1) rfl⟩
  | say s =>
    unfold rowD at h
    obtain ⟨a, xs, rfl, hS, hT⟩ := Tn.tup_inv h
    cases hT with | cons h1 r => cases h1; cases r with | cons h2 r => cases h2; cases r; exact ⟨a, _, false, rfl, hS, atI_nat (j := 0) rfl, (inV_strs _ _).trans (show decide (("say" : Str) ∈ (["read", "peek", "write"] : List Str)) = false by decide +kernel), atI_nat (j := 1) rfl⟩
def spSpare (K : PySem.W.Frag) : Sp := fun vs H Q _ => ∃ (v : V) (b : Addr) (e : Bool) (i : Nat) (S : Sc) (rs : List Td.Row), vs = [v, .ref b] ∧ Tn K H v (.tuple (rowsD rs)) ∧ SqT K H b (Way.mk e i []).vs ∧ okRs S 1 rs ∧ cnts rs ≤ 24 ∧ ∀ H', Same H H' → Q (.str (freeOf rs)) H'
section
variable {P : Program} {w : World} {K : PySem.W.Frag} {mg : Str → Option Value} {base : Heap}
theorem ok_spare (T : Tops w K mg) (G__law_paths : FnOk P w K mg base CX0 4 T.a__law_paths T.d__law_paths ["_law_rows_here", "_law_path"] (spPrs K 4)) :
    FnOk P w K mg base CX0 5 T.a__law_spare T.d__law_spare ["_law_rows_here", "_law_path"] (spSpare K) := by
  refine T.F__law_spare.ok sc_law_spare (fun vs H Q E h => ?_) (fun cdv A outer s H vs Q E hr h => ?_)
  · obtain ⟨v, b, e, i, S, rs, rfl, _⟩ := h
    rfl
  obtain ⟨v, b, e, i, S, rs, rfl, hD, hB, ok, hc, q⟩ := h
  refine ⟨_, (pss_cons (ps_set (i := 2) sc_law_spare.nd rfl (Or.inl rfl) (pe_lst pa_nil))
    (pss_cons (ps_for PassesOwn.never rfl (pi_list (pe_call G__law_paths (hr.mono (by omega)) rfl T.m__law_paths T.F__law_paths.kp T.b__law_paths .nil pass0 (pa_cons (pv 0) (pa_cons (pv 1) pa_nil)))) (pg_name (i := 3) sc_law_spare.nd rfl (Or.inl rfl)) (pss_cons (ps_set (i := 4) sc_law_spare.nd rfl (Or.inl rfl) (pe_ix ix_tup (pv 3) pe_int (fun _ _ => rfl)))
    (pss_one (ps_expr (pe_bm PySem.F.plainAttrs_list PySem.F.slot_list_append PySem.F.type_list_append mt_append (pv 2) (pa_cons (pe_ifExp (pt_cmpR op_in_seq (pe_ix ix_tup (pv 4) pe_int (fun _ _ => rfl)) (pe_tup (pa_cons pe_str (pa_cons pe_str (pa_cons pe_str pa_nil)))) (by rfl)) (pe_ix ix_tup (pv 4) pe_int (fun _ _ => rfl)) (pe_ix ix_tup (pv 4) pe_int (fun _ _ => rfl))) pa_nil))))))
    (pss_cons (ps_set (i := 5) sc_law_spare.nd rfl (Or.inl rfl) pe_str)
    (pss_cons (ps_for PassesOwn.never rfl (pi_str pe_str) (pg_name (i := 6) sc_law_spare.nd rfl (Or.inl rfl)) (pss_one (ps_if (pt_cmpR op_notIn_seq (pv 6) (pv 2) (by rfl)) (pss_one (ps_set (i := 5) sc_law_spare.nd rfl (Or.inl rfl) (pv 6))) pss_nil)))
    (pss_one (ps_ret (pv 5))))))), ?_⟩
  refine ⟨by show 0 ≤ sizeLine; decide, fun g hg0 => ?_⟩
  have s1 := Same.new hg0 (.lst [])
  have eg : upd H g (.lst []) g = some (.lst []) := upd_same
  refine ⟨_, rfl, _, rfl, v, b, e, i, [], S, 1, rs, rfl, Tn.same s1 hD, SqT.same s1 hB, by show 0 ≤ 2; decide, ok, by omega, by omega, by omega, fun pl us H2 s2 npl hpl hU => ?_⟩
  have hg2 := s2 _ _ eg
  have s12 := s1.trans s2
  have nplg : pl ≠ g := fun z => by rw [z, eg] at npl; cases npl
  have ul : us.length = (prsRs rs [] 0).length := by have := hU.length; rwa [List.length_map, List.length_map] at this
  have pc : (prsRs rs [] 0).length = cnts rs := prsRs_len ..
  refine ⟨pl, rfl, ⟨_, SqL.of hpl⟩, for_list (K := K) (a := pl) (xs := us) (fun k σ H' => ∃ (v3 v4 : Option V), σ = [some v, some (.ref b), some (.ref g), v3, v4, none, none] ∧ Same H H' ∧ TK H2 H' ∧ H' pl = some (.lst us) ∧ H' g = some (.lst ((((prsRs rs [] 0).take k).map fun c => slotR c.2).map V.str)))
    ⟨none, none, rfl, s12, TK.refl _, hpl, hg2⟩ (fun k σ H' _ ⟨_, _, _, _, _, h, _⟩ => SqL.of h) ?_ ?_⟩
  · rintro k x σ H3 hx ⟨v3, v4, rfl, s3, tk3, hpl3, hg3⟩
    obtain ⟨d, hd1, hd2⟩ := TnAll.get hU hx
    rw [List.getElem?_map, List.getElem?_map] at hd1
    obtain ⟨c', hc', rfl⟩ := Option.map_eq_some_iff.mp hd1
    obtain ⟨c, hcc, rfl⟩ := Option.map_eq_some_iff.mp hc'
    obtain ⟨t, bw, vr, rfl, hT, hBw, hR⟩ := pr_tn (Tn.keep tk3 hd2)
    have kl : k < (prsRs rs [] 0).length := (List.getElem?_eq_some_iff.mp hcc).1
    obtain ⟨ra, zs, bb, rfl, hRa, a0, ein, asl⟩ := slot_two hR
    refine ⟨_, rfl, t, _, 1, _, rfl, rfl, hT, rfl, ?_⟩
    refine ⟨_, rfl, .inl ⟨rfl, _, SqL.of hg3⟩, ?_⟩
    refine ⟨_, rfl, ra, _, 0, _, rfl, rfl, hRa, a0, by show 3 ≤ sizeLine; decide, fun t3 ht3 => ?_⟩
    have z4 := Same.new ht3 (.tup [V.str "read", .str "peek", .str "write"])
    refine ⟨t3, _, rfl, .inr (SqT.of upd_same), rfl, L2.flat_strs ["read", "peek", "write"], _, rfl, ?_⟩
    have ein2 : inV (.str (rowTag c.2)) [V.str "read", .str "peek", .str "write"] = bb := ein
    have hR4 := SqT.same z4 hRa
    have hg4 := z4 _ _ hg3
    have sel : ∀ Q' : VK, Q' (.str (slotR c.2)) (upd H3 t3 (.tup [V.str "read", .str "peek", .str "write"])) → if inV (.str (rowTag c.2)) [V.str "read", .str "peek", .str "write"] = true then tOp (rIxT K) (tVar 4) (tC (.int 2)) [some v, some (.ref b), some (.ref g), some (.ref t), some (.ref ra), none, none] (upd H3 t3 (.tup [V.str "read", .str "peek", .str "write"])) Q' else tOp (rIxT K) (tVar 4) (tC (.int 1)) [some v, some (.ref b), some (.ref g), some (.ref t), some (.ref ra), none, none] (upd H3 t3 (.tup [V.str "read", .str "peek", .str "write"])) Q' := fun Q' hQ => by
      rw [ein2]
      cases bb with
      | true => exact if_true_of rfl ⟨_, rfl, ra, _, 2, _, rfl, rfl, hR4, asl, hQ⟩
      | false => exact if_false_of rfl ⟨_, rfl, ra, _, 1, _, rfl, rfl, hR4, asl, hQ⟩
    refine sel _ ?_
    refine ⟨g, _, _, rfl, rfl, hg4, small1000 (by rw [List.length_map, List.length_map, List.length_take]; omega), ?_⟩
    refine ⟨_, _, rfl, Same.own (s3.trans z4) hg0, (tk3.trans (TK.of_same z4)).trans (TK.upd (by rw [hg4]; trivial)), by rw [upd_ne nplg]; exact z4 _ _ hpl3, ?_⟩
    rw [upd_same, take_more hcc, List.map_append, List.map_append]
    rfl
  rintro σ H3 ⟨v3, v4, rfl, s3, tk3, hpl3, hg3⟩
  rw [ul, List.take_length, prs_slRs] at hg3
  refine ⟨ba26, rfl, for_it (walk_str (z := ba26)) (fun k σ H' => ∃ (v6 : Option V), σ = [some v, some (.ref b), some (.ref g), v3, v4, some (.str (backG (slotsRs rs) k)), v6] ∧ H' = H3)
    ⟨none, rfl, rfl⟩ (fun _ _ _ _ _ => trivial) ?_ ?_⟩
  · rintro k x σ H4 H5 hk ⟨v6, rfl, rfl⟩ ⟨rfl, c, hcc, rfl⟩
    rw [ba_len] at hk
    rw [ba_at k hk] at hcc
    obtain rfl := Option.some.inj hcc
    refine ⟨_, rfl, _, rfl, g, _, rfl, .inl (SqL.of hg3), rfl, L2.flat_strs _, _, rfl, ?_⟩
    have e1 : inV (.str ⟨#[97 + (25 - k)]⟩) ((slotsRs rs).map V.str) = decide (letA (25 - k) ∈ slotsRs rs) := inV_strs _ _
    rw [e1]
    by_cases hz : letA (25 - k) ∈ slotsRs rs
    · refine if_false_of (by rw [decide_eq_true hz]; rfl) ⟨some (.str ⟨#[97 + (25 - k)]⟩), ?_, rfl⟩
      rw [backG_more _ hk, if_pos hz]
      rfl
    · refine if_true_of (by rw [decide_eq_false hz]; rfl) ⟨_, rfl, some (.str ⟨#[97 + (25 - k)]⟩), ?_, rfl⟩
      rw [backG_more _ hk, if_neg hz]
      rfl
  · rintro σ H4 ⟨v6, rfl, rfl⟩
    rw [ba_len, backG_all]
    exact ⟨_, rfl, q _ s3⟩
end
end K77
namespace K77
open PySem PySem.Spec PyProof.Rows L2 Td
theorem mem_prs {rs : List Td.Row} {k : Nat} {r : Td.Row} (h : rs[k]? = some r) (pb : List Int) {x : List Int × Td.Row} (hx : x ∈ prsR r pb k) : x ∈ prsRs rs pb 0 := by
  have e : rs = rs.take (k + 1) ++ rs.drop (k + 1) := (List.take_append_drop ..).symm
  rw [e, prsRs_append, prsRs_take h]
  exact List.mem_append_left _ (List.mem_append_right _ hx)
theorem self_prs (r : Td.Row) (pb : List Int) (k : Nat) : (pb ++ [((k : Nat) : Int)], r) ∈ prsR r pb k := by
  cases r <;> simp [prsR]
/-! ### reads turned into peeks, row by row -/
mutual
def peekR (f : List Int → Bool) : Td.Row → List Int → Nat → Td.Row
  | .ite s u y n, pb, i => .ite s u (peekRs f y (pb ++ [((i : Nat) : Int), 0]) 0) (peekRs f n (pb ++ [((i : Nat) : Int), 1]) 0)
  | .rd pk c s, pb, i => if f (pb ++ [((i : Nat) : Int)]) then .rd true c s else .rd pk c s
  | .put s u, _, _ => .put s u
  | .give s, _, _ => .give s
  | .say s, _, _ => .say s
  | .wr c s, _, _ => .wr c s
def peekRs (f : List Int → Bool) : List Td.Row → List Int → Nat → List Td.Row
  | [], _, _ => []
  | r :: rs, pb, k => peekR f r pb k :: peekRs f rs pb (k + 1)
end
theorem peekRs_append (f : List Int → Bool) : ∀ (rs ts : List Td.Row) (pb : List Int) (k : Nat), peekRs f (rs ++ ts) pb k = peekRs f rs pb k ++ peekRs f ts pb (k + rs.length)
  | [], ts, pb, k => by simp [peekRs]
  | r :: rs, ts, pb, k => by
    rw [List.cons_append]
    simp only [peekRs, peekRs_append f rs ts pb (k + 1), List.cons_append, List.length_cons]
    rw [show k + 1 + rs.length = k + (rs.length + 1) by omega]
theorem peekRs_take {f : List Int → Bool} {rs : List Td.Row} {i : Nat} {r : Td.Row} (h : rs[i]? = some r) (pb : List Int) : peekRs f (rs.take (i + 1)) pb 0 = peekRs f (rs.take i) pb 0 ++ [peekR f r pb i] := by
  have hi : i < rs.length := (List.getElem?_eq_some_iff.mp h).1
  rw [take_more h, peekRs_append]
  simp only [peekRs, List.length_take]
  rw [show 0 + min i rs.length = i by omega]
theorem peekRs_len (f : List Int → Bool) : ∀ (rs : List Td.Row) (pb : List Int) (k : Nat), (peekRs f rs pb k).length = rs.length
  | [], pb, k => by simp [peekRs]
  | r :: rs, pb, k => by simp only [peekRs, List.length_cons, peekRs_len f rs]
def peekF (L : List (Bool × Way)) (e : Bool) (i : Nat) : List Int → Bool := fun st => decide ((true, (⟨e, i, st⟩ : Way)) ∈ L)
def spPeeked (K : PySem.W.Frag) (n : Nat) : Sp := fun vs H Q _ => ∃ (v : V) (b l : Addr) (cs : List V) (L : List (Bool × Way)) (e : Bool) (i : Nat) (pb : List Int) (S : Sc) (dep : Nat) (rs : List Td.Row), vs = [v, .ref b, .ref l] ∧ Tn K H v (.tuple (rowsD rs)) ∧
  SqT K H b (Way.mk e i pb).vs ∧ H l = some (.lst cs) ∧ TnAll K H cs (L.map chgD) ∧ pb.length ≤ 2 * dep ∧ okRs S dep rs ∧ cnts rs ≤ 100 ∧ dep ≤ 4 ∧ 5 ≤ dep + n ∧ (∀ c ∈ prsRs rs pb 0, peekF L e i c.1 = true → ∃ pk x s, c.2 = .rd pk x s) ∧
  ∀ (v' : V) H', Same H H' → Tn K H' v' (.tuple (rowsD (peekRs (peekF L e i) rs pb 0))) → Q v' H'
section
variable {P : Program} {w : World} {K : PySem.W.Frag} {mg : Str → Option Value} {base : Heap}
theorem ok_peek1 (T : Tops w K mg) {n : Nat} (G__law_peeked : FnOk P w K mg base CX0 n T.a__law_peeked T.d__law_peeked ["_law_rows_here", "_law_path", "_law_chosen_here"] (spPeeked K n)) :
    FnOk P w K mg base CX0 (n + 1) T.a__law_peeked T.d__law_peeked ["_law_rows_here", "_law_path", "_law_chosen_here"] (spPeeked K (n + 1)) := by
  refine T.F__law_peeked.ok sc_law_peeked (fun vs H Q E h => ?_) (fun cdv A outer s H vs Q E hr h => ?_)
  · obtain ⟨v, b, l, cs, L, e, i, pb, S, dep, rs, rfl, _⟩ := h
    rfl
  obtain ⟨v, b, l, cs, L, eb, ib, pb, S, dep, rs, rfl, hD, hB, hlc, hC, hbl, ok, hcn, hdep, hn, hrd, q⟩ := h
  obtain ⟨a, xs, rfl, hS, hX⟩ := Tn.tup_inv hD
  have hl : xs.length = rs.length := by rw [hX.length, rowsD_length]
  have lr : rs.length ≤ cnts rs := cnts_len rs
  refine ⟨_, (pss_cons (ps_set (i := 3) sc_law_peeked.nd rfl (Or.inl rfl) (pe_lst pa_nil))
    (pss_cons (ps_for PassesOwn.never rfl (pi_range1 rfl T.z_range (pa_cons (pe_callB call_len rfl T.z_len PySem.boot_len (pa_cons (pv 0) pa_nil)) pa_nil)) (pg_name (i := 4) sc_law_peeked.nd rfl (Or.inl rfl)) (pss_cons (ps_set (i := 5) sc_law_peeked.nd rfl (Or.inl rfl) (pe_ix ix_tup (pv 0) (pv 4) (fun _ _ => rfl)))
    (pss_one (ps_if (pt_cmpR op_eq (pe_ix ix_tup (pv 5) pe_int (fun _ _ => rfl)) pe_str (nomark _)) (pss_cons (ps_set (i := 6) sc_law_peeked.nd rfl (Or.inl rfl) (pe_call G__law_peeked (hr.mono (by omega)) rfl T.m__law_peeked T.F__law_peeked.kp T.b__law_peeked .nil pass0 (pa_cons (pe_ix ix_tup (pv 5) pe_int (fun _ _ => rfl)) (pa_cons (pe_op op_catA (pv 1) (pe_tup (pa_cons (pv 4) (pa_cons pe_int pa_nil)))) (pa_cons (pv 2) pa_nil)))))
    (pss_cons (ps_set (i := 7) sc_law_peeked.nd rfl (Or.inl rfl) (pe_call G__law_peeked (hr.mono (by omega)) rfl T.m__law_peeked T.F__law_peeked.kp T.b__law_peeked .nil pass0 (pa_cons (pe_ix ix_tup (pv 5) pe_int (fun _ _ => rfl)) (pa_cons (pe_op op_catA (pv 1) (pe_tup (pa_cons (pv 4) (pa_cons pe_int pa_nil)))) (pa_cons (pv 2) pa_nil)))))
    (pss_one (ps_expr (pe_bm PySem.F.plainAttrs_list PySem.F.slot_list_append PySem.F.type_list_append mt_append (pv 3) (pa_cons (pe_tup (pa_cons (pe_ix ix_tup (pv 5) pe_int (fun _ _ => rfl)) (pa_cons (pe_ix ix_tup (pv 5) pe_int (fun _ _ => rfl)) (pa_cons (pe_ix ix_tup (pv 5) pe_int (fun _ _ => rfl)) (pa_cons (pv 6) (pa_cons (pv 7) pa_nil)))))) pa_nil)))))) (pss_one (ps_if (pt_cmpR (op_inDL (units65 hr)) (pe_tup (pa_cons pe_str (pa_cons (pe_op op_catA (pv 1) (pe_tup (pa_cons (pv 4) pa_nil))) pa_nil))) (pv 2) (by rfl)) (pss_one (ps_expr (pe_bm PySem.F.plainAttrs_list PySem.F.slot_list_append PySem.F.type_list_append mt_append (pv 3) (pa_cons (pe_tup (pa_cons pe_str (pa_cons (pe_ix ix_tup (pv 5) pe_int (fun _ _ => rfl)) (pa_cons (pe_ix ix_tup (pv 5) pe_int (fun _ _ => rfl)) pa_nil)))) pa_nil)))) (pss_one (ps_expr (pe_bm PySem.F.plainAttrs_list PySem.F.slot_list_append PySem.F.type_list_append mt_append (pv 3) (pa_cons (pv 5) pa_nil))))))))))
    (pss_one (ps_ret (pe_callTy (T := "tuple") call_tuple_of rfl T.z_tuple (by decide +kernel) (pa_cons (pv 3) pa_nil)))))), ?_⟩
  refine ⟨by show 0 ≤ sizeLine; decide, fun g hg0 => ?_⟩
  have bl : (Way.mk eb ib pb).vs.length ≤ 12 := by unfold Way.vs; rw [List.length_cons, List.length_cons, List.length_map]; show pb.length + 1 + 1 ≤ 12; omega
  have way1 : ∀ st : List Int, (Way.mk eb ib (pb ++ st)).vs = (Way.mk eb ib pb).vs ++ st.map V.int := fun st => by unfold Way.vs; rw [List.map_append]; rfl
  refine ⟨_, rfl, .ref a, _, rfl, .inr ⟨_, SqT.same (Same.new hg0 _) hS, rfl⟩, ((xs.length : Nat) : Int), rfl, by omega, by omega, for_range (lo := 0) (n := ((xs.length : Nat) : Int).toNat)
    (fun i σ H' => ∃ (v4 v5 v6 v7 : Option V) (zs : List V), σ = [some (.ref a), some (.ref b), some (.ref l), some (.ref g), v4, v5, v6, v7] ∧ Same H H' ∧ H' g = some (.lst zs) ∧ TnAll K H' zs (rowsD (peekRs (peekF L eb ib) (rs.take i) pb 0)))
    ⟨none, none, none, none, [], rfl, Same.new hg0 _, upd_same, by simp only [List.take_zero, peekRs, rowsD]; exact .nil⟩ ?_ ?_⟩
  · rintro i σ H1 hi ⟨v4, v5, v6, v7, zs, rfl, hs, hz, hzT⟩
    rw [Int.toNat_natCast] at hi
    rw [show (0 : Int) + (i : Nat) = (i : Nat) by omega]
    have hix : xs[i]? = some xs[i] := List.getElem?_eq_getElem hi
    obtain ⟨d, hd1, hd2⟩ := TnAll.get hX hix
    rw [rowsD_map, List.getElem?_map] at hd1
    obtain ⟨r, hr2, rfl⟩ := Option.map_eq_some_iff.mp hd1
    have okr := okRs_get ok hr2
    have hcr := cnts_get hr2
    have zl : zs.length = i := by rw [hzT.length, rowsD_length, peekRs_len, List.length_take]; omega
    have ptk := peekRs_take (f := peekF L eb ib) hr2 pb
    have hxi := Tn.same hs hd2
    -- how the row is put at the end
    have put : ∀ (y : V) (r' : Td.Row) (H4 : Hp), Same H1 H4 → Tn K H4 y (rowD r') → peekR (peekF L eb ib) r pb i = r' → Same H (upd H4 g (.lst (zs ++ [y]))) ∧ TnAll K (upd H4 g (.lst (zs ++ [y]))) (zs ++ [y]) (rowsD (peekRs (peekF L eb ib) (rs.take (i + 1)) pb 0)) := fun y r' H4 s4 hy er => by
      have hz4 := s4 _ _ hz
      have tk : TK H4 (upd H4 g (.lst (zs ++ [y]))) := TK.upd (by rw [hz4]; trivial)
      refine ⟨Same.own (hs.trans s4) hg0, ?_⟩
      rw [ptk, er, rowsD_map, List.map_append, ← rowsD_map]
      exact TnAll.append (TnAll.keep ((TK.of_same s4).trans tk) hzT) (TnAll.one (Tn.keep tk hy))
    refine ⟨_, rfl, _, rfl, a, _, (i : Nat), _, rfl, rfl, SqT.same hs hS, atI_nat hix, ?_⟩
    cases hi2 : isIte r with
    | false =>
      obtain ⟨ar, ws, exr, hSr, h0⟩ := row_at (Tn.dp hxi)
      rw [exr]
      refine ⟨_, rfl, ar, _, 0, _, rfl, rfl, hSr, atI_nat (j := 0) h0, rfl, _, rfl, ?_⟩
      refine if_false_of ((tag_if r).trans hi2) ?_
      -- ("peek", path + (k,)) in chosen
      refine ⟨_, rfl, _, rfl, by show 1 ≤ sizeLine; decide, fun t1 ht1 => ?_⟩
      have s12 := Same.new ht1 (.tup [V.int (i : Nat)])
      refine cat_all (SqT.same (hs.trans s12) hB) (SqT.of upd_same) (Nat.le_of_lt (small1000 (by show _ + 1 ≤ 1000; omega))) (fun pa H3 s3 hP => ?_)
      have hP' : SqT K H3 pa (Way.mk eb ib (pb ++ [((i : Nat) : Int)])).vs := by rw [way1]; exact hP
      refine ⟨by show 2 ≤ sizeLine; decide, fun t2 ht2 => ?_⟩
      have s34 := Same.new ht2 (.tup [V.str "peek", .ref pa])
      have s14 := (s12.trans s3).trans s34
      have hcd : Tn K (upd H3 t2 (.tup [V.str "peek", .ref pa])) (.ref t2) (chgD (true, Way.mk eb ib (pb ++ [((i : Nat) : Int)]))) := .tup (SqT.of upd_same) (.cons (.str _) (.cons (Way.tn (SqT.same s34 hP')) .nil))
      refine ⟨_, rfl, chgD (true, Way.mk eb ib (pb ++ [((i : Nat) : Int)])), L.map chgD, Tn.dp hcd, .lst (SqL.of ((hs.trans s14) _ _ hlc)) (TnAll.dp (TnAll.keep (TK.of_same (hs.trans s14)) hC)), chg_shaped _, chgs_shaped _, _, rfl, ?_⟩
      generalize upd H3 t2 (.tup [V.str "peek", V.ref pa]) = H4 at s34 s14 hcd
      have hz4 := s14 _ _ hz
      have hSr4 := SqT.same s14 hSr
      have er0 : hasD (chgD (true, Way.mk eb ib (pb ++ [((i : Nat) : Int)]))) (L.map chgD) = peekF L eb ib (pb ++ [((i : Nat) : Int)]) := hasD_chg _ _
      show if hasD (chgD (true, Way.mk eb ib (pb ++ [((i : Nat) : Int)]))) (L.map chgD) = true then _ else _
      rw [er0]
      cases hf : peekF L eb ib (pb ++ [((i : Nat) : Int)]) with
      | true =>
        obtain ⟨pk, xc, sc', er⟩ := hrd (pb ++ [((i : Nat) : Int)], r) (mem_prs hr2 pb (self_prs r pb i)) hf
        have er' : r = .rd pk xc sc' := er
        subst er'
        obtain ⟨ar', exr', hSr'⟩ := rd_tn hxi
        have ear : ar' = ar := by rw [exr'] at exr; exact (V.ref.inj exr)
        subst ear
        have hSr5 := SqT.same s14 hSr'
        refine if_true_of rfl ?_
        refine ⟨_, rfl, .inl ⟨rfl, _, SqL.of hz4⟩, ?_⟩
        refine ⟨_, rfl, ar', _, 1, _, rfl, rfl, hSr5, rfl, _, rfl, ar', _, 2, _, rfl, rfl, hSr5, rfl, by show 3 ≤ sizeLine; decide, fun t3 ht3 => ?_⟩
        have s45 := Same.new ht3 (.tup [V.str "peek", .str xc, .str sc'])
        have hnew : Tn K (upd H4 t3 (.tup [V.str "peek", .str xc, .str sc'])) (.ref t3) (rowD (.rd true xc sc')) := by
          unfold rowD
          exact .tup (SqT.of upd_same) (.cons (.str _) (.cons (.str _) (.cons (.str _) .nil)))
        obtain ⟨p1, p2⟩ := put _ _ _ (s14.trans s45) hnew (by simp only [peekR]; rw [if_pos hf])
        refine ⟨g, zs, _, rfl, rfl, s45 _ _ hz4, small1000 (by omega), ?_⟩
        exact ⟨_, _, _, _, _, rfl, p1, upd_same, p2⟩
      | false =>
        refine if_false_of rfl ?_
        refine ⟨_, rfl, .inl ⟨rfl, _, SqL.of hz4⟩, ?_⟩
        refine ⟨_, rfl, ?_⟩
        have er' : peekR (peekF L eb ib) r pb i = r := by
          cases r with
          | rd pk c s => simp only [peekR]; rw [if_neg (by rw [hf]; exact Bool.false_ne_true)]
          | ite => cases hi2
          | _ => simp only [peekR]
        have hxi4 := Tn.same s14 hxi
        rw [exr] at hxi4
        obtain ⟨p1, p2⟩ := put _ _ _ s14 hxi4 er'
        refine ⟨g, zs, _, rfl, rfl, hz4, small1000 (by omega), ?_⟩
        exact ⟨_, _, _, _, _, rfl, p1, upd_same, p2⟩
    | true =>
      cases r with
      | ite sl u y n' =>
        obtain ⟨ar, vy, vn, exr, hSr, hyD, hnD⟩ := ite_tn hxi
        rw [exr]
        unfold okR at okr
        have ecn : Td.cnt (Td.Row.ite sl u y n') = 1 + cnts y + cnts n' := by unfold Td.cnt; rfl
        refine ⟨_, rfl, ar, _, 0, _, rfl, rfl, hSr, rfl, rfl, _, rfl, ?_⟩
        refine if_true_of (by decide +kernel) ?_
        have sub1 : ∀ c ∈ prsRs y (pb ++ [((i : Nat) : Int), 0]) 0, c ∈ prsRs rs pb 0 := fun c hc => mem_prs hr2 pb (by unfold prsR; exact List.mem_cons_of_mem _ (List.mem_append_left _ hc))
        have sub2 : ∀ c ∈ prsRs n' (pb ++ [((i : Nat) : Int), 1]) 0, c ∈ prsRs rs pb 0 := fun c hc => mem_prs hr2 pb (by unfold prsR; exact List.mem_cons_of_mem _ (List.mem_append_right _ hc))
        refine ⟨_, rfl, ar, _, 3, _, rfl, rfl, hSr, rfl, _, rfl, _, rfl, by show 2 ≤ sizeLine; decide, fun t1 ht1 => ?_⟩
        have s12 := Same.new ht1 (.tup [V.int (i : Nat), .int 0])
        refine cat_all (SqT.same (hs.trans s12) hB) (SqT.of upd_same) (Nat.le_of_lt (small1000 (by show _ + 2 ≤ 1000; omega))) (fun p1 H3 s3 hP => ?_)
        have hP' : SqT K H3 p1 (Way.mk eb ib (pb ++ [((i : Nat) : Int), 0])).vs := by rw [way1]; exact hP
        have s13 := s12.trans s3
        refine ⟨_, rfl, vy, p1, l, cs, L, eb, ib, pb ++ [((i : Nat) : Int), 0], S, dep + 1, y, rfl, Tn.same s13 hyD, hP', (hs.trans s13) _ _ hlc, TnAll.keep (TK.of_same (hs.trans s13)) hC, by simp; omega, okr.2.2.2.1, by omega, by omega, by omega, fun c hc => hrd c (sub1 c hc), fun vy' H4 s4 hy4 => ?_⟩
        have s14 := s13.trans s4
        refine ⟨_, rfl, ar, _, 4, _, rfl, rfl, SqT.same s14 hSr, rfl, _, rfl, _, rfl, by show 2 ≤ sizeLine; decide, fun t5 ht5 => ?_⟩
        have s45 := Same.new ht5 (.tup [V.int (i : Nat), .int 1])
        refine cat_all (SqT.same ((hs.trans s14).trans s45) hB) (SqT.of upd_same) (Nat.le_of_lt (small1000 (by show _ + 2 ≤ 1000; omega))) (fun p2 H6 s6 hP2 => ?_)
        have hP2' : SqT K H6 p2 (Way.mk eb ib (pb ++ [((i : Nat) : Int), 1])).vs := by rw [way1]; exact hP2
        have s46 := s45.trans s6
        have s16 := s14.trans s46
        refine ⟨_, rfl, vn, p2, l, cs, L, eb, ib, pb ++ [((i : Nat) : Int), 1], S, dep + 1, n', rfl, Tn.same s16 hnD, hP2', (hs.trans s16) _ _ hlc, TnAll.keep (TK.of_same (hs.trans s16)) hC, by simp; omega, okr.2.2.2.2, by omega, by omega, by omega, fun c hc => hrd c (sub2 c hc), fun vn' H7 s7 hn7 => ?_⟩
        have s17 := s16.trans s7
        have hSr7 := SqT.same s17 hSr
        refine ⟨_, rfl, .inl ⟨rfl, _, SqL.of (s17 _ _ hz)⟩, ?_⟩
        refine ⟨_, rfl, ar, _, 0, _, rfl, rfl, hSr7, rfl, _, rfl, ar, _, 1, _, rfl, rfl, hSr7, rfl, _, rfl, ar, _, 2, _, rfl, rfl, hSr7, rfl, _, rfl, _, rfl, by show 5 ≤ sizeLine; decide, fun t8 ht8 => ?_⟩
        have s78 := Same.new ht8 (.tup [V.str "if", .str sl, .str u, vy', vn'])
        have hnew : Tn K (upd H7 t8 (.tup [V.str "if", .str sl, .str u, vy', vn'])) (.ref t8) (rowD (.ite sl u (peekRs (peekF L eb ib) y (pb ++ [((i : Nat) : Int), 0]) 0) (peekRs (peekF L eb ib) n' (pb ++ [((i : Nat) : Int), 1]) 0))) := by
          unfold rowD
          exact .tup (SqT.of upd_same) (.cons (.str _) (.cons (.str _) (.cons (.str _) (.cons (Tn.same ((s46.trans s7).trans s78) hy4) (.cons (Tn.same s78 hn7) .nil)))))
        obtain ⟨q1, q2⟩ := put _ _ _ (s17.trans s78) hnew (by simp only [peekR])
        refine ⟨g, zs, _, rfl, rfl, s78 _ _ (s17 _ _ hz), small1000 (by omega), ?_⟩
        exact ⟨_, _, _, _, _, rfl, q1, upd_same, q2⟩
      | _ => cases hi2
  · rintro σ H1 ⟨v4, v5, v6, v7, zs, rfl, hs, hz, hzT⟩
    rw [Int.toNat_natCast, hl, List.take_length] at hzT
    refine ⟨_, rfl, g, _, rfl, .inl ⟨SqL.of hz, fun t ht => ?_⟩⟩
    have z := Same.new ht (.tup zs)
    exact q _ _ (hs.trans z) (.tup (SqT.of upd_same) (TnAll.keep (TK.of_same z) hzT))
theorem ok_peeked (T : Tops w K mg) : ∀ k, FnOk P w K mg base CX0 k T.a__law_peeked T.d__law_peeked ["_law_rows_here", "_law_path", "_law_chosen_here"] (spPeeked K k)
  | 0 => by
    have no : ∀ vs H Q E, ¬ spPeeked K 0 vs H Q E := fun vs H Q E h => by
      obtain ⟨_, _, _, _, _, _, _, _, _, dep, _, _, _, _, _, _, _, _, _, h1, h2, _⟩ := h
      omega
    exact ⟨fun vs H Q E h => absurd h (no vs H Q E), fun A outer s H args us vs Q E _ _ _ _ h => absurd h (no vs H Q E)⟩
  | k + 1 => ok_peek1 T (ok_peeked T k)
end
end K77
namespace K77
open PySem PySem.Spec PyProof.Rows L2 Td
/-! ### one peek more is one row put -/
mutual
theorem peekR_congr {f g : List Int → Bool} : ∀ (r : Td.Row) (pb : List Int) (i : Nat), (∀ t, f (pb ++ ((i : Nat) : Int) :: t) = g (pb ++ ((i : Nat) : Int) :: t)) → peekR f r pb i = peekR g r pb i
  | .ite s u y n, pb, i, h => by
    have h1 := peekRs_congr (f := f) (g := g) y (pb ++ [((i : Nat) : Int), 0]) 0 fun t => by rw [List.append_assoc]; exact h _
    have h2 := peekRs_congr (f := f) (g := g) n (pb ++ [((i : Nat) : Int), 1]) 0 fun t => by rw [List.append_assoc]; exact h _
    simp only [peekR, h1, h2]
  | .rd pk c s, pb, i, h => by simp only [peekR]; rw [h []]
  | .put .., pb, i, h => by simp only [peekR]
  | .give .., pb, i, h => by simp only [peekR]
  | .say .., pb, i, h => by simp only [peekR]
  | .wr .., pb, i, h => by simp only [peekR]
theorem peekRs_congr {f g : List Int → Bool} : ∀ (rs : List Td.Row) (pb : List Int) (k : Nat), (∀ t, f (pb ++ t) = g (pb ++ t)) → peekRs f rs pb k = peekRs g rs pb k
  | [], pb, k, h => by simp only [peekRs]
  | r :: rs, pb, k, h => by simp only [peekRs, peekR_congr r pb k (fun t => h _), peekRs_congr rs pb (k + 1) h]
end
theorem peekRs_get {f : List Int → Bool} : ∀ (rs : List Td.Row) (pb : List Int) (k j : Nat), (peekRs f rs pb k)[j]? = (rs[j]?).map fun r => peekR f r pb (k + j)
  | [], pb, k, j => by simp [peekRs]
  | r :: rs, pb, k, 0 => by simp [peekRs]
  | r :: rs, pb, k, j + 1 => by
    simp only [peekRs, List.getElem?_cons_succ]
    rw [peekRs_get rs pb (k + 1) j, show k + 1 + j = k + (j + 1) by omega]
/-- rows alike but at one place -/
theorem peek_one {f g : List Int → Bool} {rs : List Td.Row} {pb : List Int} {k : Nat} {r : Td.Row} (hr : rs[k]? = some r) (h : ∀ (j : Nat) t, j ≠ k → f (pb ++ ((j : Nat) : Int) :: t) = g (pb ++ ((j : Nat) : Int) :: t)) : peekRs f rs pb 0 = (peekRs g rs pb 0).set k (peekR f r pb k) := by
  refine List.ext_getElem? fun j => ?_
  have kl : k < (peekRs g rs pb 0).length := by rw [peekRs_len]; exact (List.getElem?_eq_some_iff.mp hr).1
  rw [peekRs_get, List.getElem?_set]
  by_cases e : k = j
  · subst e
    rw [if_pos rfl, if_pos kl, hr, Nat.zero_add]
    rfl
  · rw [if_neg e, peekRs_get]
    cases rs[j]? with
    | none => rfl
    | some x =>
      show some (peekR f x pb (0 + j)) = some (peekR g x pb (0 + j))
      rw [peekR_congr (f := f) (g := g) x pb (0 + j) fun t => by rw [Nat.zero_add]; exact h j t (fun z => e z.symm)]
theorem peek_set {f : List Int → Bool} : ∀ (st : List Int) {rs : List Td.Row} {pb : List Int} {pk : Bool} {c s : Str}, rowAt rs st = some (.rd pk c s) →
    peekRs (fun x => f x || decide (x = pb ++ st)) rs pb 0 = setAt (peekRs f rs pb 0) st (.rd true c s)
  | [], rs, pb, pk, c, s, h => by unfold rowAt at h; cases h
  | [i], rs, pb, pk, c, s, h => by
    obtain ⟨k, rfl, e⟩ := rowAt_one h
    have far : ∀ (j : Nat) t, j ≠ k → (f (pb ++ ((j : Nat) : Int) :: t) || decide (pb ++ ((j : Nat) : Int) :: t = pb ++ [((k : Nat) : Int)])) = f (pb ++ ((j : Nat) : Int) :: t) := fun j t hj => by
      rw [decide_eq_false, Bool.or_false]
      intro z
      have := app_ne z
      omega
    rw [peek_one (g := f) e far]
    show _ = (peekRs f rs pb 0).set ((k : Nat) : Int).toNat _
    rw [Int.toNat_natCast]
    have ep : peekR (fun x => f x || decide (x = pb ++ [((k : Nat) : Int)])) (.rd pk c s) pb k = .rd true c s := by
      simp [peekR]
    rw [ep]
  | i :: j :: st, rs, pb, pk, c, s, h => by
    obtain ⟨k, s', u, y, n, rfl, e1, e2⟩ := rowAt_two h
    have far : ∀ (j' : Nat) t, j' ≠ k → (f (pb ++ ((j' : Nat) : Int) :: t) || decide (pb ++ ((j' : Nat) : Int) :: t = pb ++ ((k : Nat) : Int) :: j :: st)) = f (pb ++ ((j' : Nat) : Int) :: t) := fun j' t hj => by
      rw [decide_eq_false, Bool.or_false]
      intro z
      have := app_ne z
      omega
    rw [peek_one (g := f) e1 far]
    have eg : (peekRs f rs pb 0)[k]? = some (.ite s' u (peekRs f y (pb ++ [((k : Nat) : Int), 0]) 0) (peekRs f n (pb ++ [((k : Nat) : Int), 1]) 0)) := by
      rw [peekRs_get, e1, Nat.zero_add]
      show some (peekR f (.ite s' u y n) pb k) = _
      simp only [peekR]
    unfold setAt
    rw [getI_nat, eg]
    show (peekRs f rs pb 0).set k _ = if j = 0 then (peekRs f rs pb 0).set ((k : Nat) : Int).toNat _ else _
    rw [Int.toNat_natCast]
    rcases e2 with ⟨rfl, e2⟩ | ⟨rfl, e2⟩
    · rw [if_pos rfl]
      have h1 := peek_set (f := f) st (pb := pb ++ [((k : Nat) : Int), 0]) e2
      rw [List.append_assoc] at h1
      have h2 : peekRs (fun x => f x || decide (x = pb ++ ((k : Nat) : Int) :: 0 :: st)) n (pb ++ [((k : Nat) : Int), 1]) 0 = peekRs f n (pb ++ [((k : Nat) : Int), 1]) 0 := peekRs_congr n _ 0 fun t => by
        rw [decide_eq_false, Bool.or_false]
        intro z
        rw [List.append_assoc] at z
        have z2 := List.append_cancel_left z
        injection z2 with _ z2
        injection z2 with z2 _
        exact absurd z2 (by decide)
      simp only [peekR]
      rw [h2]
      exact congrArg (fun z => (peekRs f rs pb 0).set k (.ite s' u z _)) h1
    · rw [if_neg (by decide)]
      have h1 := peek_set (f := f) st (pb := pb ++ [((k : Nat) : Int), 1]) e2
      rw [List.append_assoc] at h1
      have h2 : peekRs (fun x => f x || decide (x = pb ++ ((k : Nat) : Int) :: 1 :: st)) y (pb ++ [((k : Nat) : Int), 0]) 0 = peekRs f y (pb ++ [((k : Nat) : Int), 0]) 0 := peekRs_congr y _ 0 fun t => by
        rw [decide_eq_false, Bool.or_false]
        intro z
        rw [List.append_assoc] at z
        have z2 := List.append_cancel_left z
        injection z2 with _ z2
        injection z2 with z2 _
        exact absurd z2 (by decide)
      simp only [peekR]
      rw [h2]
      exact congrArg (fun z => (peekRs f rs pb 0).set k (.ite s' u _ z)) h1
mutual
theorem peekR_no : ∀ (r : Td.Row) (pb : List Int) (i : Nat), peekR (fun _ => false) r pb i = r
  | .ite s u y n, pb, i => by simp only [peekR, peekRs_no y, peekRs_no n]
  | .rd pk c s, pb, i => by simp [peekR]
  | .put .., pb, i => by simp only [peekR]
  | .give .., pb, i => by simp only [peekR]
  | .say .., pb, i => by simp only [peekR]
  | .wr .., pb, i => by simp only [peekR]
theorem peekRs_no : ∀ (rs : List Td.Row) (pb : List Int) (k : Nat), peekRs (fun _ => false) rs pb k = rs
  | [], pb, k => by simp only [peekRs]
  | r :: rs, pb, k => by simp only [peekRs, peekR_no r, peekRs_no rs]
end
theorem fold_peek {rs : List Td.Row} : ∀ (own : List (Bool × List Int)) (f : List Int → Bool), OwnOk rs own → own.foldl (behindF rs) (peekRs f rs [] 0) = peekRs (fun x => f x || decide ((true, x) ∈ own)) rs [] 0
  | [], f, _ => by
    rw [List.foldl_nil]
    exact peekRs_congr rs [] 0 fun t => by simp
  | c :: own, f, ho => by
    rw [List.foldl_cons]
    have ho2 : OwnOk rs own := fun d hd => ho d (List.mem_cons_of_mem _ hd)
    obtain ⟨x, s, e⟩ := ho c List.mem_cons_self
    cases hc : c.1 with
    | false =>
      have e1 : behindF rs (peekRs f rs [] 0) c = peekRs f rs [] 0 := by unfold behindF; rw [hc, if_neg Bool.false_ne_true]
      rw [e1, fold_peek own f ho2]
      refine peekRs_congr rs [] 0 fun t => ?_
      have : decide ((true, [] ++ t) ∈ c :: own) = decide ((true, [] ++ t) ∈ own) := by
        rw [Bool.eq_iff_iff, decide_eq_true_eq, decide_eq_true_eq, List.mem_cons]
        refine ⟨fun h => h.elim (fun z => ?_) id, .inr⟩
        have := congrArg Prod.fst z
        rw [hc] at this
        cases this
      rw [this]
    | true =>
      have e1 : behindF rs (peekRs f rs [] 0) c = setAt (peekRs f rs [] 0) c.2 (.rd true x s) := by
        unfold behindF
        rw [hc, if_pos rfl, e]
        rfl
      rw [e1, ← peek_set (f := f) (pb := []) c.2 e, fold_peek own _ ho2]
      refine peekRs_congr rs [] 0 fun t => ?_
      have : decide ((true, [] ++ t) ∈ c :: own) = (decide ([] ++ t = [] ++ c.2) || decide ((true, [] ++ t) ∈ own)) := by
        rw [Bool.eq_iff_iff, Bool.or_eq_true, decide_eq_true_eq, decide_eq_true_eq, decide_eq_true_eq, List.mem_cons]
        refine ⟨fun h => h.elim (fun z => .inl ?_) .inr, fun h => h.elim (fun z => .inl ?_) .inr⟩
        · exact congrArg Prod.snd z
        · exact Prod.ext hc.symm z
      rw [this, Bool.or_assoc]
/-- the changed rows, as the law works them out -/
theorem behind_peek {rs : List Td.Row} {L : List (Bool × Way)} {e : Bool} {i : Nat} (ho : OwnOk rs (ownC L e i)) : behindRs rs (ownC L e i) = peekRs (peekF L e i) rs [] 0 := by
  unfold behindRs
  have h := fold_peek (ownC L e i) (fun _ => false) ho
  rw [peekRs_no] at h
  rw [h]
  refine peekRs_congr rs [] 0 fun t => ?_
  rw [Bool.false_or]
  unfold peekF
  rw [Bool.eq_iff_iff, decide_eq_true_eq, decide_eq_true_eq]
  unfold ownC
  constructor
  · intro h
    obtain ⟨d, hd, ed⟩ := List.mem_map.mp h
    obtain ⟨h1, h2⟩ := List.mem_filter.mp hd
    rw [Bool.and_eq_true, decide_eq_true_eq, decide_eq_true_eq] at h2
    have e1 : d.1 = true := congrArg Prod.fst ed
    have e2 : d.2.st = [] ++ t := congrArg Prod.snd ed
    have : d = (true, (⟨e, i, [] ++ t⟩ : Way)) := by
      refine Prod.ext e1 ?_
      show d.2 = _
      rw [← h2.1, ← h2.2, ← e2]
    rw [← this]
    exact h1
  · intro h
    refine List.mem_map.mpr ⟨_, List.mem_filter.mpr ⟨h, ?_⟩, rfl⟩
    simp
end K77
namespace K77
open PySem PySem.Spec PyProof.Rows L2 Td
/-- every row comes with its path -/
theorem prs_all : ∀ (st : List Int) {rs : List Td.Row} {r : Td.Row} (pb : List Int), rowAt rs st = some r → (pb ++ st, r) ∈ prsRs rs pb 0
  | [], rs, r, pb, h => by unfold rowAt at h; cases h
  | [i], rs, r, pb, h => by
    obtain ⟨k, rfl, e⟩ := rowAt_one h
    exact mem_prs e pb (self_prs r pb k)
  | i :: j :: st, rs, r, pb, h => by
    obtain ⟨k, s, u, y, n, rfl, e1, e2⟩ := rowAt_two h
    refine mem_prs e1 pb ?_
    unfold prsR
    rcases e2 with ⟨rfl, e2⟩ | ⟨rfl, e2⟩
    · have := prs_all st (pb ++ [((k : Nat) : Int), 0]) e2
      rw [List.append_assoc] at this
      exact List.mem_cons_of_mem _ (List.mem_append_left _ this)
    · have := prs_all st (pb ++ [((k : Nat) : Int), 1]) e2
      rw [List.append_assoc] at this
      exact List.mem_cons_of_mem _ (List.mem_append_right _ this)
def hitE (c : Bool × Way) (e : Bool) (i : Nat) : Bool := !c.1 && (decide (c.2.e = e) && decide (c.2.i = i))
theorem chg_eqv (c d : Bool × Way) : PyData.eqv (chgD c) (chgD d) = decide (c = d) := by
  rw [Bool.eq_iff_iff, decide_eq_true_eq]
  exact ⟨chg_inj, fun h => by rw [h]; exact SeqAt.eqv_refl _ (chg_lay d).1⟩
/-- the early cells of a body, by the changes so far, each as often as it is told -/
def accL (q : Str × List Td.Row) (L : List (Bool × Way)) (e : Bool) (i k : Nat) : List Str := earlyCs q.2 (ownC (L.take k) e i)
theorem accL_more {q : Str × List Td.Row} {L : List (Bool × Way)} {e : Bool} {i k : Nat} {c : Bool × Way} (h : L[k]? = some c) : accL q L e i (k + 1) = accL q L e i k ++ (if hitE c e i then [cellOf (rowAt q.2 c.2.st)] else []) := by
  unfold accL
  rw [take_more h]
  unfold ownC
  rw [List.filter_append, List.map_append]
  unfold hitE
  by_cases h1 : (decide (c.2.e = e) && decide (c.2.i = i)) = true
  · simp only [List.filter_cons, List.filter_nil]
    rw [if_pos h1, h1, Bool.and_true]
    unfold earlyCs
    rw [List.filter_append, List.map_append]
    cases hc : c.1 with
    | false => simp [hc]
    | true => simp [hc]
  · have h2 : (decide (c.2.e = e) && decide (c.2.i = i)) = false := Bool.eq_false_iff.mpr h1
    simp only [List.filter_cons, List.filter_nil]
    rw [if_neg h1, h2, Bool.and_false, List.map_nil, List.append_nil, if_neg Bool.false_ne_true, List.append_nil]
theorem accL_len (q : Str × List Td.Row) (L : List (Bool × Way)) (e : Bool) (i k : Nat) : (accL q L e i k).length ≤ k := by
  unfold accL
  have h2 : (earlyCs q.2 (ownC (L.take k) e i)).length ≤ (ownC (L.take k) e i).length := by unfold earlyCs; rw [List.length_map]; exact List.length_filter_le ..
  have h3 := ownC_len (L.take k) e i
  rw [List.length_take] at h3
  omega
/-- a change meets one path at most -/
theorem hit_once {rs : List Td.Row} {e : Bool} {i j : Nat} {c : Bool × Way} {d : Way × Td.Row} (hd : ((prsRs rs [] 0).map (wayR e i))[j]? = some d) (hc : c = (false, d.1)) : (((prsRs rs [] 0).map (wayR e i)).take j).any (fun d => decide (c = (false, d.1))) = false := by
  rw [List.any_eq_false]
  intro d2 h2 e2
  have e2 := of_decide_eq_true e2
  obtain ⟨k, hk⟩ := List.getElem?_of_mem h2
  have kj : k < j := by
    have := (List.getElem?_eq_some_iff.mp hk).1
    rw [List.length_take] at this
    omega
  rw [List.getElem?_take_of_lt kj, List.getElem?_map] at hk
  rw [List.getElem?_map] at hd
  obtain ⟨a, ha, rfl⟩ := Option.map_eq_some_iff.mp hd
  obtain ⟨b, hb, rfl⟩ := Option.map_eq_some_iff.mp hk
  have e3 : (wayR e i a).1 = (wayR e i b).1 := by rw [hc] at e2; exact congrArg Prod.snd e2
  have e4 : a.1 = b.1 := congrArg Way.st e3
  have h1 : ((prsRs rs [] 0).map (·.1))[j]? = some a.1 := by rw [List.getElem?_map, ha]; rfl
  have h3 : ((prsRs rs [] 0).map (·.1))[k]? = some a.1 := by rw [List.getElem?_map, hb, e4]; rfl
  have := nd_atB (prs_ndL rs [] 0) h1 h3
  omega
def spLawChd (K : PySem.W.Frag) : Sp := fun vs H Q _ => ∃ (v : V) (p : PP) (m : Nat) (l : Addr) (cs : List V) (L : List (Bool × Way)) (e : Bool), vs = [v, .str (kdW e), .ref l] ∧ Tn K H v p.data ∧ p.Ok m ∧ m ≤ 16 ∧ H l = some (.lst cs) ∧ TnAll K H cs (L.map chgD) ∧ L.length ≤ 12 ∧ ChOk p L ∧
  ∀ (x : V) H', Same H H' → Tn K H' x (pairsD (chBodies L e (bodiesOf p e))) → Q x H'
section
variable {P : Program} {w : World} {K : PySem.W.Frag} {mg : Str → Option Value} {base : Heap}
theorem ok_law_chd (T : Tops w K mg) (G__law_paths : FnOk P w K mg base CX0 4 T.a__law_paths T.d__law_paths ["_law_rows_here", "_law_path"] (spPrs K 4))
    (G__law_spare : FnOk P w K mg base CX0 5 T.a__law_spare T.d__law_spare ["_law_rows_here", "_law_path"] (spSpare K))
    (G__law_peeked : FnOk P w K mg base CX0 4 T.a__law_peeked T.d__law_peeked ["_law_rows_here", "_law_path", "_law_chosen_here"] (spPeeked K 4)) :
    FnOk P w K mg base CX0 6 T.a__law_changed T.d__law_changed ["_law_parts_here", "_law_kind", "_law_chosen_here"] (spLawChd K) := by
  refine T.F__law_changed.ok sc_law_changed (fun vs H Q E h => ?_) (fun cdv A outer s H vs Q E hr h => ?_)
  · obtain ⟨v, p, m, l, cs, L, e, rfl, _⟩ := h
    rfl
  obtain ⟨v, p, m, l, cs, L, e, rfl, hD, ok, hm, hl, hC, ll, hch, q⟩ := h
  obtain ⟨pa, aw, as, vd, ve, rfl, hP, h1, h2, h3, h4⟩ := parts_at hD
  obtain ⟨ad, dxs, rfl, hA, hdl, hdx⟩ := pairs_at h3
  obtain ⟨ae, exs, rfl, hA2, hel, hex⟩ := pairs_at h4
  have cl : cs.length = L.length := by have := hC.length; rwa [List.length_map] at this
  obtain ⟨ac, ys, hAC, hAt, yl, hy⟩ : ∃ (ac : Addr) (ys : List V), SqT K H ac ys ∧ atI [V.ref aw, .ref as, .ref ad, .ref ae] (if e then 3 else 2) = some (.ref ac) ∧ ys.length = (bodiesOf p e).length ∧
      ∀ (i : Nat) (x : V), ys[i]? = some x → ∃ (q : Str × List Td.Row) (b : Addr) (vr : V), (bodiesOf p e)[i]? = some q ∧ x = .ref b ∧ SqT K H b [.str q.1, vr] ∧ Tn K H vr (.tuple (rowsD q.2)) := by
    cases e with
    | false => exact ⟨ad, dxs, hA, rfl, hdl, hdx⟩
    | true => exact ⟨ae, exs, hA2, rfl, hel, hex⟩
  have bl10 : (bodiesOf p e).length ≤ 6 := by
    have d6 := ok.d6
    have e4 := ok.e4
    cases e with
    | false => exact d6
    | true => exact Nat.le_trans e4 (by decide)
  have cbl : (chBodies L e (bodiesOf p e)).length = (bodiesOf p e).length := by unfold chBodies; rw [List.length_mapIdx]
  refine ⟨_, (pss_cons (ps_set (i := 3) sc_law_changed.nd rfl (Or.inl rfl) (pe_lst pa_nil))
    (pss_cons (ps_set (i := 4) sc_law_changed.nd rfl (Or.inl rfl) (pe_ifExp (pt_cmpR op_eq (pv 1) pe_str (nomark _)) (pe_ix ix_tup (pv 0) pe_int (fun _ _ => rfl)) (pe_ix ix_tup (pv 0) pe_int (fun _ _ => rfl))))
    (pss_cons (ps_for PassesOwn.never rfl (pi_range1 rfl T.z_range (pa_cons (pe_callB call_len rfl T.z_len PySem.boot_len (pa_cons (pv 4) pa_nil)) pa_nil)) (pg_name (i := 5) sc_law_changed.nd rfl (Or.inl rfl)) (pss_cons (ps_set (i := 6) sc_law_changed.nd rfl (Or.inl rfl) (pe_ix ix_tup (pe_ix ix_tup (pv 4) (pv 5) (fun _ _ => rfl)) pe_int (fun _ _ => rfl)))
    (pss_cons (ps_set (i := 7) sc_law_changed.nd rfl (Or.inl rfl) (pe_lst pa_nil))
    (pss_cons (ps_for PassesOwn.never rfl (pi_list (pv 2)) (pg_name (i := 8) sc_law_changed.nd rfl (Or.inl rfl)) (pss_one (ps_for PassesOwn.never rfl (pi_list (pe_call G__law_paths (hr.mono (by omega)) rfl T.m__law_paths T.F__law_paths.kp T.b__law_paths .nil pass0 (pa_cons (pv 6) (pa_cons (pe_tup (pa_cons (pv 1) (pa_cons (pv 5) pa_nil))) pa_nil)))) (pg_name (i := 9) sc_law_changed.nd rfl (Or.inl rfl)) (pss_one (ps_if (pt_cmpR (op_eqD hr.units) (pv 8) (pe_tup (pa_cons pe_str (pa_cons (pe_ix ix_tup (pv 9) pe_int (fun _ _ => rfl)) pa_nil))) (nomark _)) (pss_one (ps_expr (pe_bm PySem.F.plainAttrs_list PySem.F.slot_list_append PySem.F.type_list_append mt_append (pv 7) (pa_cons (pe_tup (pa_cons pe_str (pa_cons (pe_ix ix_tup (pe_ix ix_tup (pv 9) pe_int (fun _ _ => rfl)) pe_int (fun _ _ => rfl)) (pa_cons (pe_call G__law_spare (hr.mono (by omega)) rfl T.m__law_spare T.F__law_spare.kp T.b__law_spare .nil pass0 (pa_cons (pv 6) (pa_cons (pe_tup (pa_cons (pv 1) (pa_cons (pv 5) pa_nil))) pa_nil))) pa_nil)))) pa_nil)))) pss_nil)))))
    (pss_one (ps_expr (pe_bm PySem.F.plainAttrs_list PySem.F.slot_list_append PySem.F.type_list_append mt_append (pv 3) (pa_cons (pe_tup (pa_cons (pe_ix ix_tup (pe_ix ix_tup (pv 4) (pv 5) (fun _ _ => rfl)) pe_int (fun _ _ => rfl)) (pa_cons (pe_op op_catA (pe_callTy (T := "tuple") call_tuple_of rfl T.z_tuple (by decide +kernel) (pa_cons (pv 7) pa_nil)) (pe_call G__law_peeked (hr.mono (by omega)) rfl T.m__law_peeked T.F__law_peeked.kp T.b__law_peeked .nil pass0 (pa_cons (pv 6) (pa_cons (pe_tup (pa_cons (pv 1) (pa_cons (pv 5) pa_nil))) (pa_cons (pv 2) pa_nil))))) pa_nil))) pa_nil))))))))
    (pss_one (ps_ret (pe_callTy (T := "tuple") call_tuple_of rfl T.z_tuple (by decide +kernel) (pa_cons (pv 3) pa_nil))))))), ?_⟩
  refine ⟨by show 0 ≤ sizeLine; decide, fun g hg0 => ?_⟩
  have s1 := Same.new hg0 (.lst [])
  have eg : upd H g (.lst []) g = some (.lst []) := upd_same
  try dsimp only
  generalize upd H g (.lst []) = H1 at s1 eg
  have hP1 := SqT.same s1 hP
  have sel : ∀ Q' : VK, Q' (.ref ac) H1 → tIf (tTest (tOp rEq (tVar 1) (tC (V.str "derived")))) (tOp (rIxT K) (tVar 0) (tC (V.int 2))) (tOp (rIxT K) (tVar 0) (tC (V.int 3))) [some (.ref pa), some (.str (kdW e)), some (.ref l), some (.ref g), none, none, none, none, none, none] H1 Q' := fun Q' hQ => by
    refine ⟨_, rfl, rfl, _, rfl, ?_⟩
    cases e with
    | false => exact if_true_of (by decide +kernel) ⟨_, rfl, pa, _, 2, _, rfl, rfl, hP1, hAt, hQ⟩
    | true => exact if_false_of (by decide +kernel) ⟨_, rfl, pa, _, 3, _, rfl, rfl, hP1, hAt, hQ⟩
  refine sel _ ?_
  refine ⟨_, rfl, .ref ac, _, rfl, .inr ⟨_, SqT.same s1 hAC, rfl⟩, ((ys.length : Nat) : Int), rfl, by omega, by omega, for_range (lo := 0) (n := ((ys.length : Nat) : Int).toNat)
    (fun i σ H' => ∃ (v5 v6 v7 v8 v9 : Option V) (zs : List V), σ = [some (.ref pa), some (.str (kdW e)), some (.ref l), some (.ref g), some (.ref ac), v5, v6, v7, v8, v9] ∧ Same H H' ∧ H' g = some (.lst zs) ∧ TnAll K H' zs (((chBodies L e (bodiesOf p e)).take i).map Td.pairD))
    ⟨none, none, none, none, none, [], rfl, s1, eg, by rw [List.take_zero]; exact .nil⟩ ?_ ?_⟩
  · rintro i σ H2 hi ⟨v5, v6, v7, v8, v9, zs, rfl, s2, hz, hzT⟩
    rw [Int.toNat_natCast] at hi
    rw [show (0 : Int) + (i : Nat) = (i : Nat) by omega]
    have hix : ys[i]? = some ys[i] := List.getElem?_eq_getElem hi
    obtain ⟨qq, b, vr, hq, ex, hB, hT⟩ := hy i _ hix
    rw [ex] at hix
    have hcq : cnts qq.2 ≤ m := bodies_cnt ok hq
    obtain ⟨S, okq⟩ : ∃ S, okRs S 1 qq.2 := by
      cases e with
      | false => exact ⟨_, (okDer_get ok.der hq).1⟩
      | true => exact ⟨_, (okEff_get ok.eff hq).1⟩
    have own := hch.own hq
    have hB2 := SqT.same s2 hB
    refine ⟨_, rfl, _, rfl, ac, _, (i : Nat), .ref b, rfl, rfl, SqT.same s2 hAC, atI_nat hix, b, _, 1, _, rfl, rfl, hB2, rfl, ?_⟩
    refine ⟨by show 0 ≤ sizeLine; decide, fun g2 hg2 => ?_⟩
    have s23 := Same.new hg2 (.lst [])
    have eg2 : upd H2 g2 (.lst []) g2 = some (.lst []) := upd_same
    refine ⟨_, rfl, l, rfl, ⟨_, SqL.of ((s2.trans s23) _ _ hl)⟩, for_list (K := K) (a := l) (xs := cs)
      (fun k σ H' => ∃ (v8 v9 : Option V) (es : List V), σ = [some (.ref pa), some (.str (kdW e)), some (.ref l), some (.ref g), some (.ref ac), some (.int (i : Nat)), some vr, some (.ref g2), v8, v9] ∧ Same H2 H' ∧ H' g2 = some (.lst es) ∧ TnAll K H' es (rowsD (earlyRs (freeOf qq.2) (accL qq L e i k))))
      ⟨v8, v9, [], rfl, s23, eg2, by show TnAll K _ [] (rowsD []); unfold rowsD; exact .nil⟩ (fun k σ H' _ ⟨_, _, _, _, hs, _⟩ => SqL.of ((s2.trans hs) _ _ hl)) ?_ ?_⟩
    · rintro k x σ H3 hx ⟨v8, v9, es, rfl, s3, he, heT⟩
      obtain ⟨d, hd1, hd2⟩ := TnAll.get hC hx
      rw [List.getElem?_map] at hd1
      obtain ⟨c, hc, rfl⟩ := Option.map_eq_some_iff.mp hd1
      obtain ⟨tc, wb, rfl, hTc, hWb⟩ := chg_tn hd2
      have hd2c := hd2
      have kl : k < L.length := (List.getElem?_eq_some_iff.mp hc).1
      have al := accL_len qq L e i k
      have s03 := s2.trans s3
      refine ⟨_, rfl, _, rfl, _, rfl, by show 2 ≤ sizeLine; decide, fun tb htb => ?_⟩
      have s34 := Same.new htb (.tup [V.str (kdW e), V.int (i : Nat)])
      refine ⟨vr, tb, e, i, [], S, 1, qq.2, rfl, Tn.same (s03.trans s34) hT, SqT.of upd_same, by show 0 ≤ 2; decide, okq, by omega, by omega, by omega, fun pl us H4 s4 npl hpl hU => ?_⟩
      have s14 := s34.trans s4
      have he4 := s14 _ _ he
      have heT4 := TnAll.keep (TK.of_same s14) heT
      have nplg : pl ≠ g2 := fun z => by rw [z] at npl; have := s34 _ _ he; rw [npl] at this; cases this
      have ul : us.length = (prsRs qq.2 [] 0).length := by have := hU.length; rwa [List.length_map, List.length_map] at this
      obtain ⟨x0, hx0⟩ : ∃ x0, x0 = cellOf (rowAt qq.2 c.2.st) := ⟨_, rfl⟩
      refine ⟨pl, rfl, ⟨_, SqL.of hpl⟩, for_list (K := K) (a := pl) (xs := us)
        (fun j σ H' => ∃ (v9 : Option V) (es : List V), σ = [some (.ref pa), some (.str (kdW e)), some (.ref l), some (.ref g), some (.ref ac), some (.int (i : Nat)), some vr, some (.ref g2), some (.ref tc), v9] ∧ Same H2 H' ∧ TK H4 H' ∧ H' pl = some (.lst us) ∧ H' g2 = some (.lst es) ∧
          TnAll K H' es (rowsD (earlyRs (freeOf qq.2) (accL qq L e i k ++ (if (((prsRs qq.2 [] 0).map (wayR e i)).take j).any (fun d => decide (c = (false, d.1))) then [x0] else [])))))
        ⟨v9, es, rfl, s3.trans s14, TK.refl _, hpl, he4, by rw [List.take_zero, List.any_nil, if_neg Bool.false_ne_true, List.append_nil]; exact heT4⟩ (fun j σ H' _ ⟨_, _, _, _, _, h, _⟩ => SqL.of h) ?_ ?_⟩
      · rintro j x σ H5 hx ⟨v9, es, rfl, s5, tk5, hpl5, he5, heT5⟩
        obtain ⟨d0, hd1, hd2⟩ := TnAll.get hU hx
        rw [List.getElem?_map] at hd1
        obtain ⟨d, hd, rfl⟩ := Option.map_eq_some_iff.mp hd1
        obtain ⟨t, bw, vr2, rfl, hTp, hBw, hRw⟩ := pr_tn (Tn.keep tk5 hd2)
        have more : (((prsRs qq.2 [] 0).map (wayR e i)).take (j + 1)).any (fun d => decide (c = (false, d.1))) = ((((prsRs qq.2 [] 0).map (wayR e i)).take j).any (fun d => decide (c = (false, d.1))) || decide (c = (false, d.1))) := by
          rw [take_more hd, List.any_append]
          simp
        refine ⟨_, rfl, _, rfl, t, _, 0, _, rfl, rfl, hTp, rfl, by show 2 ≤ sizeLine; decide, fun t2 ht2 => ?_⟩
        have z := Same.new ht2 (.tup [V.str "early", .ref bw])
        have hcz : Tn K (upd H5 t2 (.tup [V.str "early", .ref bw])) (.ref t2) (chgD (false, d.1)) := .tup (SqT.of upd_same) (.cons (.str _) (.cons (Way.tn (SqT.same z hBw)) .nil))
        refine ⟨chgD c, chgD (false, d.1), Tn.dp (Tn.same ((s2.trans s5).trans z) hd2c), Tn.dp hcz, chg_shaped _, chg_shaped _, _, rfl, ?_⟩
        have s6 := s5.trans z
        have tk6 := tk5.trans (TK.of_same z)
        have hpl6 := z _ _ hpl5
        have he6 := z _ _ he5
        have heT6 := TnAll.keep (TK.of_same z) heT5
        have hTp6 := SqT.same z hTp
        have hRw6 := Tn.same z hRw
        generalize upd H5 t2 (.tup [V.str "early", V.ref bw]) = H6 at s6 tk6 hpl6 he6 heT6 hTp6 hRw6
        rw [chg_eqv]
        by_cases hit : c = (false, d.1)
        · rw [decide_eq_true hit]
          refine if_true_of rfl ?_
          rw [hit_once hd hit, decide_eq_true hit, Bool.or_true] at more
          rw [hit_once hd hit, if_neg Bool.false_ne_true, List.append_nil] at heT6
          obtain ⟨qx, xc, scx, hqx, hrow⟩ := hch.at_ c (List.mem_of_getElem? hc)
          have ewe : d.1.e = e := by obtain ⟨z1, _, rfl⟩ := List.mem_map.mp (List.mem_of_getElem? hd); rfl
          have ewi : d.1.i = i := by obtain ⟨z1, _, rfl⟩ := List.mem_map.mp (List.mem_of_getElem? hd); rfl
          have ec2 : c.2 = d.1 := by rw [hit]
          rw [ec2, ewe, ewi, hq] at hqx
          obtain rfl := Option.some.inj hqx
          have hrd : rowAt qq.2 d.1.st = some d.2 := by
            obtain ⟨z1, hz1, ez⟩ := List.mem_map.mp (List.mem_of_getElem? hd)
            obtain ⟨j', st', e1, h1, _⟩ := prs_atL qq.2 [] 0 qq.2 [] rfl rfl z1 hz1
            rw [← ez]
            show rowAt qq.2 z1.1 = some z1.2
            rw [e1]
            exact h1
          rw [ec2, hrd] at hrow
          have er : d.2 = .rd false xc scx := Option.some.inj hrow
          rw [er] at hRw6
          obtain ⟨ra, rfl, hRa⟩ := rd_tn hRw6
          have ex0 : x0 = xc := by rw [hx0, ec2, hrd, er]; rfl
          have esl : es.length ≤ 12 := by
            rw [heT6.length, rowsD_length]
            unfold earlyRs
            rw [List.length_map]
            omega
          refine ⟨_, rfl, .inl ⟨rfl, _, SqL.of he6⟩, ?_⟩
          refine ⟨_, rfl, t, _, 1, _, rfl, rfl, hTp6, rfl, ra, _, 1, _, rfl, rfl, hRa, rfl, ?_⟩
          refine ⟨_, rfl, _, rfl, _, rfl, by show 2 ≤ sizeLine; decide, fun tb2 htb2 => ?_⟩
          have s67 := Same.new htb2 (.tup [V.str (kdW e), V.int (i : Nat)])
          refine ⟨vr, tb2, e, i, S, qq.2, rfl, Tn.same ((s2.trans s6).trans s67) hT, SqT.of upd_same, okq, by omega, fun H8 s8 => ⟨by show 3 ≤ sizeLine; decide, fun t5 ht5 => ?_⟩⟩
          have s89 := Same.new ht5 (.tup [V.str "read", .str xc, .str (freeOf qq.2)])
          have s69 := (s67.trans s8).trans s89
          have he9 := s69 _ _ he6
          have hnew : Tn K (upd H8 t5 (.tup [V.str "read", .str xc, .str (freeOf qq.2)])) (.ref t5) (rowD (.rd false xc (freeOf qq.2))) := by
            unfold rowD
            exact .tup (SqT.of upd_same) (.cons (.str _) (.cons (.str _) (.cons (.str _) .nil)))
          refine ⟨g2, es, _, rfl, rfl, he9, small1000 (by omega), ?_⟩
          have tk9 := TK.upd (p := g2) (H := upd H8 t5 (.tup [V.str "read", .str xc, .str (freeOf qq.2)])) (o := .lst (es ++ [.ref t5])) (by rw [he9]; trivial)
          refine ⟨_, es ++ [.ref t5], rfl, Same.own (s6.trans s69) hg2, (tk6.trans (TK.of_same s69)).trans tk9, by rw [upd_ne nplg]; exact s69 _ _ hpl6, upd_same, ?_⟩
          rw [more, if_pos rfl, ex0]
          unfold earlyRs
          rw [rowsD_map, List.map_append, List.map_append, ← rowsD_map]
          exact TnAll.append (TnAll.keep ((TK.of_same s69).trans tk9) heT6) (TnAll.one (Tn.keep tk9 hnew))
        · rw [decide_eq_false hit]
          refine if_false_of rfl ?_
          rw [decide_eq_false hit, Bool.or_false] at more
          refine ⟨_, es, rfl, s6, tk6, hpl6, he6, ?_⟩
          rw [more]
          exact heT6
      · rintro σ H5 ⟨v9, es, rfl, s5, tk5, hpl5, he5, heT5⟩
        refine ⟨_, _, es, rfl, s5, he5, ?_⟩
        rw [accL_more hc]
        rw [ul, ← List.length_map (f := wayR e i), List.take_length, hx0] at heT5
        have : ((prsRs qq.2 [] 0).map (wayR e i)).any (fun d => decide (c = (false, d.1))) = hitE c e i := by
          rw [Bool.eq_iff_iff, List.any_eq_true]
          unfold hitE
          constructor
          · rintro ⟨d, hd, ed⟩
            have ed := of_decide_eq_true ed
            obtain ⟨z1, _, rfl⟩ := List.mem_map.mp hd
            rw [ed]
            show (!false && (decide (e = e) && decide (i = i))) = true
            rw [decide_eq_true rfl, decide_eq_true rfl]; rfl
          · intro h
            rw [Bool.and_eq_true, Bool.and_eq_true, decide_eq_true_eq, decide_eq_true_eq] at h
            obtain ⟨g1, g2', g3⟩ := h
            obtain ⟨qx, xc, scx, hqx, hrow⟩ := hch.at_ c (List.mem_of_getElem? hc)
            rw [g2', g3, hq] at hqx
            obtain rfl := Option.some.inj hqx
            refine ⟨wayR e i (c.2.st, .rd false xc scx), List.mem_map_of_mem (prs_all c.2.st [] hrow), decide_eq_true ?_⟩
            refine Prod.ext (by simpa using g1) ?_
            show c.2 = ⟨e, i, c.2.st⟩
            rw [← g2', ← g3]
        rw [this] at heT5
        exact heT5
    rintro σ H3 ⟨v8, v9, es, rfl, s3, he, heT⟩
    have s03 := s2.trans s3
    rw [cl] at heT
    unfold accL at heT
    rw [List.take_length] at heT
    have esl : es.length ≤ 12 := by
      rw [heT.length, rowsD_length]
      unfold earlyRs
      rw [List.length_map]
      have := accL_len qq L e i L.length
      unfold accL at this
      rw [List.take_length] at this
      omega
    have zl : zs.length ≤ 6 := by
      have := hzT.length
      rw [List.length_map, List.length_take] at this
      omega
    have hz3 := s3 _ _ hz
    refine ⟨_, rfl, .inl ⟨rfl, _, SqL.of hz3⟩, ?_⟩
    refine ⟨_, rfl, _, rfl, ac, _, (i : Nat), .ref b, rfl, rfl, SqT.same s03 hAC, atI_nat hix, b, _, 0, _, rfl, rfl, SqT.same s03 hB, rfl, ?_⟩
    refine ⟨_, rfl, g2, _, rfl, .inl ⟨SqL.of he, fun t6 ht6 => ?_⟩⟩
    have s34 := Same.new ht6 (.tup es)
    have hE6 : SqT K (upd H3 t6 (.tup es)) t6 es := SqT.of upd_same
    refine ⟨_, rfl, _, rfl, _, rfl, by show 2 ≤ sizeLine; decide, fun tb htb => ?_⟩
    have s45 := Same.new htb (.tup [V.str (kdW e), V.int (i : Nat)])
    have s05 := (s03.trans s34).trans s45
    refine ⟨_, rfl, vr, tb, l, cs, L, e, i, [], S, 1, qq.2, rfl, Tn.same s05 hT, SqT.of upd_same, s05 _ _ hl, TnAll.keep (TK.of_same s05) hC, by show 0 ≤ 2; decide, okq, by omega, by decide, by decide, fun c hc hf => ?_, fun v' H6 s6 hv' => ?_⟩
    · obtain ⟨j', st', e1, g1, _⟩ := prs_atL qq.2 [] 0 qq.2 [] rfl rfl c hc
      have hm' : (true, (⟨e, i, c.1⟩ : Way)) ∈ L := of_decide_eq_true hf
      obtain ⟨qx, xc, scx, hqx, hrow⟩ := hch.at_ _ hm'
      have hqx2 : (bodiesOf p e)[i]? = some qx := hqx
      rw [hq] at hqx2
      obtain rfl := Option.some.inj hqx2
      have hrow2 : rowAt qq.2 c.1 = some (.rd false xc scx) := hrow
      rw [e1] at hrow2
      rw [List.nil_append] at hrow2
      rw [g1] at hrow2
      exact ⟨false, xc, scx, Option.some.inj hrow2⟩
    obtain ⟨va, ws, rfl, hV, hVT⟩ := Tn.tup_inv hv'
    have s46 := s45.trans s6
    have wl : ws.length = qq.2.length := by rw [hVT.length, rowsD_length, peekRs_len]
    have rl := len_cnts qq.2
    refine cat_all (SqT.same s46 hE6) hV (Nat.le_of_lt (small1000 (by omega))) (fun pc H7 s7 hcat => ⟨by show 2 ≤ sizeLine; decide, fun t8 ht8 => ?_⟩)
    have s78 := Same.new ht8 (.tup [V.str qq.1, .ref pc])
    have s38 := (s34.trans (s46.trans s7)).trans s78
    have hz8 := s38 _ _ hz3
    have hrows : Tn K (upd H7 t8 (.tup [V.str qq.1, .ref pc])) (.ref pc) (.tuple (rowsD (chRows qq.2 (ownC L e i)))) := by
      unfold chRows
      rw [behind_peek own, rowsD_map, List.map_append, ← rowsD_map, ← rowsD_map]
      exact .tup (SqT.same s78 hcat) (TnAll.append (TnAll.keep (TK.of_same ((s34.trans (s46.trans s7)).trans s78)) heT) (TnAll.keep (TK.of_same (s7.trans s78)) hVT))
    have hnew : Tn K (upd H7 t8 (.tup [V.str qq.1, .ref pc])) (.ref t8) (Td.pairD (qq.1, chRows qq.2 (ownC L e i))) := .tup (SqT.of upd_same) (.cons (.str _) (.cons hrows .nil))
    refine ⟨g, zs, _, rfl, rfl, hz8, small1000 (by omega), ?_⟩
    have tk := TK.upd (p := g) (H := upd H7 t8 (.tup [V.str qq.1, .ref pc])) (o := .lst (zs ++ [.ref t8])) (by rw [hz8]; trivial)
    refine ⟨_, _, _, _, _, zs ++ [.ref t8], rfl, Same.own (s03.trans s38) hg0, upd_same, ?_⟩
    rw [take_more (chB_at hq), List.map_append]
    exact TnAll.append (TnAll.keep ((TK.of_same (s3.trans s38)).trans tk) hzT) (TnAll.one (Tn.keep tk hnew))
  · rintro σ H2 ⟨v5, v6, v7, v8, v9, zs, rfl, s2, hz, hzT⟩
    rw [Int.toNat_natCast, yl, ← cbl, List.take_length] at hzT
    refine ⟨_, rfl, g, _, rfl, .inl ⟨SqL.of hz, fun t ht => ?_⟩⟩
    have z := Same.new ht (.tup zs)
    exact q _ _ (s2.trans z) (.tup (SqT.of upd_same) (TnAll.keep (TK.of_same z) hzT))
end
end K77
namespace K77
open PySem PySem.Spec PyProof.Rows L2 Td
/-- what with_changes is due to do -/
def dueD (p : PP) : PyData := match manyOf p with
  | some (e, i) => .tuple [.str "many", .tuple [.str (kdW e), .int (i : Nat)]]
  | none => .tuple [.str "made", p.data]
def spDue (K : PySem.W.Frag) : Sp := fun vs H Q _ => ∃ (v : V) (p : PP) (m : Nat) (l : Addr) (cs : List V) (L : List (Bool × Way)), vs = [v, .ref l] ∧ Tn K H v p.data ∧ p.Ok m ∧ m ≤ 16 ∧ H l = some (.lst cs) ∧ TnAll K H cs (L.map chgD) ∧ L.length ≤ 12 ∧ ChOk p L ∧
  ∀ (x : V) H', Same H H' → Tn K H' x (dueD (Chd p L)) → Q x H'
section
variable {P : Program} {w : World} {K : PySem.W.Frag} {mg : Str → Option Value} {base : Heap}
theorem ok_due (T : Tops w K mg) (G__law_changed : FnOk P w K mg base CX0 6 T.a__law_changed T.d__law_changed ["_law_parts_here", "_law_kind", "_law_chosen_here"] (spLawChd K))
    (G__law_many : FnOk P w K mg base CX0 5 T.a__law_many T.d__law_many ["_law_rows_here"] (spMany K 5)) :
    FnOk P w K mg base CX0 7 T.a__law_due T.d__law_due ["_law_parts_here", "_law_chosen_here"] (spDue K) := by
  refine T.F__law_due.ok sc_law_due (fun vs H Q E h => ?_) (fun cdv A outer s H vs Q E hr h => ?_)
  · obtain ⟨v, p, m, l, cs, L, rfl, _⟩ := h
    rfl
  obtain ⟨v, p, m, l, cs, L, rfl, hD, ok, hm, hl, hC, ll, hch, q⟩ := h
  have ok2 := chd_ok60 ok hch (by omega) (by omega)
  have d6 := ok2.d6
  have e4 := ok2.e4
  refine ⟨_, (pss_cons (ps_set (i := 2) sc_law_due.nd rfl (Or.inl rfl) (pe_call G__law_changed (hr.mono (by omega)) rfl T.m__law_changed T.F__law_changed.kp T.b__law_changed .nil pass0 (pa_cons (pv 0) (pa_cons pe_str (pa_cons (pv 1) pa_nil)))))
    (pss_cons (ps_set (i := 3) sc_law_due.nd rfl (Or.inl rfl) (pe_call G__law_changed (hr.mono (by omega)) rfl T.m__law_changed T.F__law_changed.kp T.b__law_changed .nil pass0 (pa_cons (pv 0) (pa_cons pe_str (pa_cons (pv 1) pa_nil)))))
    (pss_cons (ps_for PassesOwn.never rfl (pi_range1 rfl T.z_range (pa_cons (pe_callB call_len rfl T.z_len PySem.boot_len (pa_cons (pv 2) pa_nil)) pa_nil)) (pg_name (i := 4) sc_law_due.nd rfl (Or.inl rfl)) (pss_one (ps_if (pt_cmpR op_gt (pe_call G__law_many (hr.mono (by omega)) rfl T.m__law_many T.F__law_many.kp T.b__law_many .nil pass0 (pa_cons (pe_ix ix_tup (pe_ix ix_tup (pv 2) (pv 4) (fun _ _ => rfl)) pe_int (fun _ _ => rfl)) pa_nil)) pe_int (nomark _)) (pss_one (ps_ret (pe_tup (pa_cons pe_str (pa_cons (pe_tup (pa_cons pe_str (pa_cons (pv 4) pa_nil))) pa_nil))))) pss_nil)))
    (pss_cons (ps_for PassesOwn.never rfl (pi_range1 rfl T.z_range (pa_cons (pe_callB call_len rfl T.z_len PySem.boot_len (pa_cons (pv 3) pa_nil)) pa_nil)) (pg_name (i := 4) sc_law_due.nd rfl (Or.inl rfl)) (pss_one (ps_if (pt_cmpR op_gt (pe_call G__law_many (hr.mono (by omega)) rfl T.m__law_many T.F__law_many.kp T.b__law_many .nil pass0 (pa_cons (pe_ix ix_tup (pe_ix ix_tup (pv 3) (pv 4) (fun _ _ => rfl)) pe_int (fun _ _ => rfl)) pa_nil)) pe_int (nomark _)) (pss_one (ps_ret (pe_tup (pa_cons pe_str (pa_cons (pe_tup (pa_cons pe_str (pa_cons (pv 4) pa_nil))) pa_nil))))) pss_nil)))
    (pss_one (ps_ret (pe_tup (pa_cons pe_str (pa_cons (pe_tup (pa_cons (pe_ix ix_tup (pv 0) pe_int (fun _ _ => rfl)) (pa_cons (pe_ix ix_tup (pv 0) pe_int (fun _ _ => rfl)) (pa_cons (pv 2) (pa_cons (pv 3) pa_nil))))) pa_nil))))))))), ?_⟩
  refine ⟨_, rfl, _, rfl, v, p, m, l, cs, L, false, rfl, hD, ok, hm, hl, hC, ll, hch, fun x1 H1 s1 hx1 => ?_⟩
  refine ⟨_, rfl, _, rfl, v, p, m, l, cs, L, true, rfl, Tn.same s1 hD, ok, hm, s1 _ _ hl, TnAll.keep (TK.of_same s1) hC, ll, hch, fun x2 H2 s2 hx2 => ?_⟩
  have s12 := s1.trans s2
  have hd1 : Tn K H2 x1 (pairsD (Chd p L).derived) := Tn.same s2 hx1
  have hd2 : Tn K H2 x2 (pairsD (Chd p L).effects) := hx2
  have hD2 := Tn.same s12 hD
  clear hx1 hx2 hD
  have edata : (Chd p L).words = p.words ∧ (Chd p L).sources = p.sources := ⟨rfl, rfl⟩
  generalize Chd p L = p2 at ok2 d6 e4 hd1 hd2 q edata
  obtain ⟨ad, xs, rfl, hA, xl, hx⟩ := pairs_at hd1
  obtain ⟨ae, ys, rfl, hA2, yl, hy⟩ := pairs_at hd2
  obtain ⟨pa, aw, as, vd, ve, rfl, hP, w1, w2, w3, w4⟩ := parts_at hD2
  refine ⟨_, rfl, .ref ad, _, rfl, .inr ⟨_, hA, rfl⟩, ((xs.length : Nat) : Int), rfl, by omega, by omega, for_range (lo := 0) (n := ((xs.length : Nat) : Int).toNat)
    (fun i σ H' => ∃ (v4 : Option V), σ = [some (.ref pa), some (.ref l), some (.ref ad), some (.ref ae), v4] ∧ H' = H2 ∧ firstMany 0 p2.derived = firstMany i (p2.derived.drop i))
    ⟨none, rfl, rfl, rfl⟩ ?_ ?_⟩
  · rintro i σ H3 hi ⟨v4, rfl, rfl, fm⟩
    rw [Int.toNat_natCast] at hi
    rw [show (0 : Int) + (i : Nat) = (i : Nat) by omega]
    have hix : xs[i]? = some xs[i] := List.getElem?_eq_getElem hi
    obtain ⟨qq, b, vr, hq, ex, hB, hT⟩ := hx i _ hix
    rw [ex] at hix
    rw [firstMany_drop hq] at fm
    refine ⟨_, rfl, _, rfl, ad, _, (i : Nat), .ref b, rfl, rfl, hA, atI_nat hix, b, _, 1, _, rfl, rfl, hB, rfl, vr, qq.2, _, 1, rfl, hT.dp, (okDer_get ok2.der hq).1, by decide, by decide, ?_⟩
    refine ⟨_, _, rfl, rfl, _, rfl, ?_⟩
    by_cases h16 : cnts qq.2 ≤ 16
    · rw [if_pos h16] at fm
      exact if_false_of (decide_eq_false (by omega)) ⟨_, rfl, rfl, fm⟩
    · rw [if_neg h16] at fm
      refine if_true_of (decide_eq_true (by omega)) ?_
      have em : manyOf p2 = some (false, i) := by unfold manyOf; rw [fm]
      refine ⟨_, rfl, by show 2 ≤ sizeLine; decide, fun t1 ht1 => ⟨by show 2 ≤ sizeLine; decide, fun t2 ht2 => ?_⟩⟩
      have z1 := Same.new ht1 (.tup [V.str "derived", .int (i : Nat)])
      have z2 := Same.new ht2 (.tup [V.str "many", .ref t1])
      refine q _ _ ((s12.trans z1).trans z2) ?_
      unfold dueD
      rw [em]
      exact .tup (SqT.of upd_same) (.cons (.str _) (.cons (.tup (SqT.same z2 (SqT.of upd_same)) (.cons (.str _) (.cons (.int _) .nil))) .nil))
  rintro σ H3 ⟨v4, rfl, rfl, fm⟩
  rw [Int.toNat_natCast, xl, List.drop_length] at fm
  have fm0 : firstMany 0 p2.derived = none := fm
  have em0 : manyOf p2 = (firstMany 0 p2.effects).map fun i => (true, i) := by unfold manyOf; rw [fm0]
  refine ⟨_, rfl, .ref ae, _, rfl, .inr ⟨_, hA2, rfl⟩, ((ys.length : Nat) : Int), rfl, by omega, by omega, for_range (lo := 0) (n := ((ys.length : Nat) : Int).toNat)
    (fun i σ H' => ∃ (v4 : Option V), σ = [some (.ref pa), some (.ref l), some (.ref ad), some (.ref ae), v4] ∧ H' = H3 ∧ firstMany 0 p2.effects = firstMany i (p2.effects.drop i))
    ⟨v4, rfl, rfl, rfl⟩ ?_ ?_⟩
  · rintro i σ H4 hi ⟨v4, rfl, rfl, fm⟩
    rw [Int.toNat_natCast] at hi
    rw [show (0 : Int) + (i : Nat) = (i : Nat) by omega]
    have hix : ys[i]? = some ys[i] := List.getElem?_eq_getElem hi
    obtain ⟨qq, b, vr, hq, ex, hB, hT⟩ := hy i _ hix
    rw [ex] at hix
    rw [firstMany_drop hq] at fm
    refine ⟨_, rfl, _, rfl, ae, _, (i : Nat), .ref b, rfl, rfl, hA2, atI_nat hix, b, _, 1, _, rfl, rfl, hB, rfl, vr, qq.2, _, 1, rfl, hT.dp, (okEff_get ok2.eff hq).1, by decide, by decide, ?_⟩
    refine ⟨_, _, rfl, rfl, _, rfl, ?_⟩
    by_cases h16 : cnts qq.2 ≤ 16
    · rw [if_pos h16] at fm
      exact if_false_of (decide_eq_false (by omega)) ⟨_, rfl, rfl, fm⟩
    · rw [if_neg h16] at fm
      refine if_true_of (decide_eq_true (by omega)) ?_
      have em : manyOf p2 = some (true, i) := by rw [em0, fm]; rfl
      refine ⟨_, rfl, by show 2 ≤ sizeLine; decide, fun t1 ht1 => ⟨by show 2 ≤ sizeLine; decide, fun t2 ht2 => ?_⟩⟩
      have z1 := Same.new ht1 (.tup [V.str "effects", .int (i : Nat)])
      have z2 := Same.new ht2 (.tup [V.str "many", .ref t1])
      refine q _ _ ((s12.trans z1).trans z2) ?_
      unfold dueD
      rw [em]
      exact .tup (SqT.of upd_same) (.cons (.str _) (.cons (.tup (SqT.same z2 (SqT.of upd_same)) (.cons (.str _) (.cons (.int _) .nil))) .nil))
  · rintro σ H4 ⟨v4, rfl, rfl, fm⟩
    rw [Int.toNat_natCast, yl, List.drop_length] at fm
    have em : manyOf p2 = none := by rw [em0, fm]; rfl
    refine ⟨_, rfl, pa, _, 0, _, rfl, rfl, hP, rfl, _, rfl, pa, _, 1, _, rfl, rfl, hP, rfl, _, rfl, _, rfl, by show 4 ≤ sizeLine; decide, fun t1 ht1 => ⟨by show 2 ≤ sizeLine; decide, fun t2 ht2 => ?_⟩⟩
    have z1 := Same.new ht1 (.tup [V.ref aw, .ref as, .ref ad, .ref ae])
    have z2 := Same.new ht2 (.tup [V.str "made", .ref t1])
    have z12 := z1.trans z2
    refine q _ _ (s12.trans z12) ?_
    unfold dueD
    rw [em]
    have hdata : Tn K (upd (upd H4 t1 (.tup [V.ref aw, .ref as, .ref ad, .ref ae])) t2 (.tup [V.str "made", .ref t1])) (.ref t1) p2.data := by
      refine .tup (SqT.same z2 (SqT.of upd_same)) (.cons ?_ (.cons ?_ (.cons (Tn.same z12 hd1) (.cons (Tn.same z12 hd2) .nil))))
      · rw [edata.1]; exact .tup (SqT.same z12 w1) (TnAll.strs _)
      · rw [edata.2]; exact .tup (SqT.same z12 w2) (TnAll.strs _)
    exact .tup (SqT.of upd_same) (.cons (.str _) (.cons hdata .nil))
end
end K77
namespace K77
open PySem PySem.Spec PyProof.Rows L2 Td
/-- a def that lets nothing out of what it is asked here -/
theorem calm_out {P : Program} {w : World} {K : PySem.W.Frag} {mg : Str → Option Value} {base : Heap} {k : Nat} {f : Addr} {fd : FuncData} {ps : List Str} {s1 s2 : Sp} (G : FnOk P w K mg base (L2.CX P w) k f fd ps s1) (h : ∀ vs H Q E, s2 vs H Q E → s1 vs H Q fun _ _ _ => False) : FnOk P w K mg base CX0 k f fd ps s2 :=
  ⟨fun vs H Q E z => G.len vs H Q _ (h vs H Q E z), fun A outer s H args us vs Q E hr he hb hv hs => codeAny_mono (G.run A outer s H args us vs Q (fun _ _ _ => False) hr he hb hv (h vs H Q E hs)) fun r s' hq => by
    cases r with
    | error e => obtain ⟨a, B, H', cls, d, _, _, _, _, _, _, _, z⟩ := hq; exact z.elim
    | ok fl => cases fl <;> exact hq⟩
/-- right changes, in a list or a tuple -/
structure GoodL (K : PySem.W.Frag) (H : Hp) (CP pa l : Addr) (p : PP) (cs : List V) (L : List (Bool × Way)) : Prop where
  prog : ProgAt K H CP pa p
  ok : p.Ok 16
  at_ : H l = some (.lst cs) ∨ SqT K H l cs
  tn : TnAll K H cs (L.map chgD)
  few : L.length ≤ 20
  ch : ChOk p L
  nd : L.Nodup
  st : ∀ c ∈ L, c.2.st.length ≤ 60
theorem GoodL.same {K : PySem.W.Frag} {H H' : Hp} {CP pa l : Addr} {p : PP} {cs : List V} {L : List (Bool × Way)} (g : GoodL K H CP pa l p cs L) (s : Same H H') : GoodL K H' CP pa l p cs L :=
  ⟨g.prog.same s, g.ok, g.at_.elim (fun h => .inl (s _ _ h)) fun h => .inr (SqT.same s h), TnAll.keep (TK.of_same s) g.tn, g.few, g.ch, g.nd, g.st⟩
/-- changes of which one is the first wrong one -/
structure BadL (K : PySem.W.Frag) (H : Hp) (CP pa l : Addr) (p : PP) (cs : List V) (I : List (PyData × Option (Str × Option (Bool × Int × List Int)))) (i : Nat) : Prop where
  prog : ProgAt K H CP pa p
  ok : p.Ok 16
  at_ : H l = some (.lst cs)
  dp : DpAll K H cs (I.map (·.1))
  few : I.length ≤ 100
  cf : ∀ c ∈ I, CF c.1 c.2 ∧ c.1.canLay0 = true ∧ c.1.depth ≤ 40
  fine : ∀ j, j < i → wrongIt p I j = false
  wr : wrongIt p I i = true
theorem BadL.same {K : PySem.W.Frag} {H H' : Hp} {CP pa l : Addr} {p : PP} {cs : List V} {I : List (PyData × Option (Str × Option (Bool × Int × List Int)))} {i : Nat} (g : BadL K H CP pa l p cs I i) (s : Same H H') : BadL K H' CP pa l p cs I i :=
  ⟨g.prog.same s, g.ok, s _ _ g.at_, DpAll.same s g.dp, g.few, g.cf, g.fine, g.wr⟩
def spWithA (K : PySem.W.Frag) (CP CI CC : Addr) : Sp := fun vs H Q E => (∃ (pa l : Addr) (cs : List V) (p : PP) (L : List (Bool × Way)), vs = [.ref pa, .ref l] ∧ GoodL K H CP pa l p cs L ∧ OutM K CP CI H p L Q E) ∨
  (∃ (pa l : Addr) (cs : List V) (p : PP) (I : List (PyData × Option (Str × Option (Bool × Int × List Int)))) (i : Nat), vs = [.ref pa, .ref l] ∧ BadL K H CP pa l p cs I i ∧ Rz CC "index" (.int (i : Nat)) H E)
def chgTold (i : Nat) : PyData := .tuple [.str "change", .int (i : Nat)]
def spLawWith (K : PySem.W.Frag) (CP : Addr) : Sp := fun vs H Q _ => (∃ (pa l : Addr) (cs : List V) (p : PP) (L : List (Bool × Way)), vs = [.ref pa, .ref l] ∧ GoodL K H CP pa l p cs L ∧ ∀ (x : V) H', Same H H' → Dp K H' x (dueD (Chd p L)) → Q x H') ∨
  (∃ (pa l : Addr) (cs : List V) (p : PP) (I : List (PyData × Option (Str × Option (Bool × Int × List Int)))) (i : Nat), vs = [.ref pa, .ref l] ∧ BadL K H CP pa l p cs I i ∧ ∀ (x : V) H', Same H H' → Dp K H' x (chgTold i) → Q x H')
section
variable {P : Program} {w : World} {K : PySem.W.Frag} {mg : Str → Option Value} {base : Heap}
theorem ok_with_A (T : Tops w K mg) (L : FnOk P w K mg base (L2.CX P w) 13 T.a_with_changes T.d_with_changes ["program", "changes"] (spWithL K T.c_Program T.c_InvalidProgram T.c_InvalidChange))
    (M : FnOk P w K mg base (L2.CX P w) 13 T.a_with_changes T.d_with_changes ["program", "changes"] (spWithT K T.c_Program T.c_InvalidProgram)) :
    FnOk P w K mg base (L2.CX P w) 13 T.a_with_changes T.d_with_changes ["program", "changes"] (spWithA K T.c_Program T.c_InvalidProgram T.c_InvalidChange) :=
  ⟨fun vs H Q E h => by
      rcases h with ⟨pa, l, cs, p, L, rfl, _⟩ | ⟨pa, l, cs, p, I, i, rfl, _⟩ <;> rfl,
    fun A outer s H args us vs Q E hr he hb hv hs => by
      rcases hs with ⟨pa, l, cs, p, L', rfl, g, out⟩ | ⟨pa, l, cs, p, I, i, rfl, g, rz⟩
      · rcases g.at_ with h | h
        · exact L.run A outer s H args us _ Q E hr he hb hv (.inl ⟨pa, l, cs, p, 16, L', rfl, g.prog, g.ok, by decide, h, g.tn, g.few, g.ch, g.nd, g.st, out⟩)
        · exact M.run A outer s H args us _ Q E hr he hb hv ⟨pa, l, cs, p, 16, L', rfl, g.prog, g.ok, by decide, h, g.tn, g.few, g.ch, g.nd, g.st, out⟩
      · exact L.run A outer s H args us _ Q E hr he hb hv (.inr ⟨pa, l, cs, p, 16, I, i, rfl, g.prog, g.ok, by decide, g.at_, g.dp, g.few, g.cf, g.fine, g.wr, rz⟩)⟩
theorem ok_law_with (T : Tops w K mg) (G_with_changes : FnOk P w K mg base (L2.CX P w) 13 T.a_with_changes T.d_with_changes ["program", "changes"] (spWithA K T.c_Program T.c_InvalidProgram T.c_InvalidChange)) :
    FnOk P w K mg base CX0 14 T.a__law_with T.d__law_with ["_law_program_here", "_law_changes_here"] (spLawWith K T.c_Program) := by
  refine T.F__law_with.ok sc_law_with (fun vs H Q E h => ?_) (fun cdv A outer s H vs Q E hr h => ?_)
  · rcases h with ⟨pa, l, cs, p, L, rfl, _⟩ | ⟨pa, l, cs, p, I, i, rfl, _⟩ <;> rfl
  refine ⟨_, (pss_cons (ps_set (i := 2) sc_law_with.nd rfl (Or.inl rfl) (pe_tup (pa_cons pe_str (pa_cons pe_non pa_nil))))
    (pss_cons (ps_try_asL rfl rfl sc_law_with.nd takes0 (fun W pn xe tk _ => (pss_cons (ps_set (i := 3) sc_law_with.nd rfl (Or.inl rfl) (pe_callS G_with_changes (hr.mono (by omega)) rfl T.m_with_changes T.F_with_changes.kp T.b_with_changes (fun σ => passAt tk σ) (pa_cons (pv 0) (pa_cons (pv 1) pa_nil))))
    (pss_one (ps_set (i := 2) sc_law_with.nd rfl (Or.inl rfl) (pe_tup (pa_cons pe_str (pa_cons (pe_tup (pa_cons (by show PE _ _ (tFld K (tVar 3) "words"); exact pe_fld (pv 3) rfl) (pa_cons (by show PE _ _ (tFld K (tVar 3) "sources"); exact pe_fld (pv 3) rfl) (pa_cons (by show PE _ _ (tFld K (tVar 3) "derived"); exact pe_fld (pv 3) rfl) (pa_cons (by show PE _ _ (tFld K (tVar 3) "effects"); exact pe_fld (pv 3) rfl) pa_nil))))) pa_nil))))))) (Clauses.more (i := 4) rfl rfl ⟨rfl, by decide, .inl T.m_InvalidChange⟩ (fun a oe cls d pn hz hf => (pss_one (ps_set (i := 2) sc_law_with.nd rfl (Or.inl rfl) (pe_tup (pa_cons pe_str (pa_cons (pe_xf ⟨T.xa_InvalidChange, T.xg_InvalidChange, T.x_InvalidChange.exC, T.xh_InvalidChange⟩ T.n_InvalidChange_index hz hf (pv 4)) pa_nil)))))) (Clauses.more (i := 4) rfl rfl ⟨rfl, by decide, .inl T.m_InvalidProgram⟩ (fun a oe cls d pn hz hf => (pss_one (ps_set (i := 2) sc_law_with.nd rfl (Or.inl rfl) (pe_tup (pa_cons (pe_xf ⟨T.xa_InvalidProgram, T.xg_InvalidProgram, T.x_InvalidProgram.exC, T.xh_InvalidProgram⟩ T.n_InvalidProgram_part hz hf (pv 4)) (pa_cons (pe_xf ⟨T.xa_InvalidProgram, T.xg_InvalidProgram, T.x_InvalidProgram.exC, T.xh_InvalidProgram⟩ T.n_InvalidProgram_path hz hf (pv 4)) pa_nil)))))) Clauses.none)))
    (pss_one (ps_ret (pv 2))))), ?_⟩
  refine ⟨by show 2 ≤ sizeLine; decide, fun t0 ht0 => ?_⟩
  have s0 := Same.new ht0 (.tup [V.str "none", .non])
  try dsimp only
  generalize upd H t0 (.tup [V.str "none", .non]) = H1 at s0
  rcases h with ⟨pa, l, cs, p, L, rfl, g, q⟩ | ⟨pa, l, cs, p, I, i, rfl, g, q⟩
  · refine ⟨_, rfl, _, rfl, .inl ⟨pa, l, cs, p, L, rfl, g.same s0, fun mn x H2 s2 n2 hx => ?_, fun e i z v dd H2 s2 hv hd he => ?_⟩⟩
    · obtain ⟨dx, aw, as, vd, ve, ⟨dn, en, e, hdn, hen⟩, h1, h2, h3, h4⟩ := hx.ex
      refine ⟨_, rfl, x, _, dx, _, _, rfl, e, T.l_Program, T.n_Program_words, progF_words .., _, rfl, x, _, dx, _, _, rfl, e, T.l_Program, T.n_Program_sources, progF_sources .., _, rfl, x, _, dx, _, _, rfl, e, T.l_Program, T.n_Program_derived, progF_derived .., _, rfl, x, _, dx, _, _, rfl, e, T.l_Program, T.n_Program_effects, progF_effects .., by show 4 ≤ sizeLine; decide, fun t1 ht1 => ⟨by show 2 ≤ sizeLine; decide, fun t2 ht2 => ⟨_, rfl, ?_⟩⟩⟩
      have z1 := Same.new ht1 (.tup [V.ref aw, .ref as, vd, ve])
      have z2 := Same.new ht2 (.tup [V.str "made", .ref t1])
      have z12 := z1.trans z2
      refine q _ _ ((s0.trans s2).trans z12) ?_
      unfold dueD
      rw [mn]
      exact .tup (SqT.of upd_same) (.cons (.str _) (.cons (.tup (SqT.same z2 (SqT.of upd_same)) (.cons (.tup (SqT.same z12 h1) (DpAll.strs _)) (.cons (.tup (SqT.same z12 h2) (DpAll.strs _)) (.cons (Tn.dp (Tn.same z12 h3)) (.cons (Tn.dp (Tn.same z12 h4)) .nil))))) .nil))
    · refine ⟨false, T.xn_InvalidProgram_InvalidChange, fun z => (nomatch z), fun _ => ⟨true, T.xe_InvalidProgram, fun _ ea hea => ?_, fun z => nomatch z⟩⟩
      refine ⟨_, rfl, rfl, rfl, dd, _, _, rfl, he, rfl, _, rfl, rfl, rfl, dd, _, _, rfl, he, rfl, by show 2 ≤ sizeLine; decide, fun t ht => ⟨_, rfl, ?_⟩⟩
      have z1 := Same.new ht (.tup [V.str "many", v])
      refine q _ _ ((s0.trans s2).trans z1) ?_
      unfold dueD
      rw [z]
      have ek : kdS e = kdW e := by cases e <;> rfl
      rw [ek] at hv
      exact .tup (SqT.of upd_same) (.cons (.str _) (.cons (Dp.same z1 hv) .nil))
  · refine ⟨_, rfl, _, rfl, .inr ⟨pa, l, cs, p, I, i, rfl, g.same s0, fun dd H2 s2 hd he => ?_⟩⟩
    refine ⟨true, T.xe_InvalidChange, fun _ ea hea => ?_, fun z => nomatch z⟩
    refine ⟨_, rfl, rfl, rfl, dd, _, _, rfl, he, rfl, by show 2 ≤ sizeLine; decide, fun t ht => ⟨_, rfl, ?_⟩⟩
    have z1 := Same.new ht (.tup [V.str "change", .int (i : Nat)])
    exact q _ _ ((s0.trans s2).trans z1) (.tup (SqT.of upd_same) (.cons (.str _) (.cons (.int _) .nil)))
end
end K77
namespace K77
open PySem PySem.Spec PyProof.Rows L2 Td
theorem rowAt_zero : ∀ (st : List Int) {rs : List Td.Row} {r : Td.Row}, rowAt rs st = some r → rowAt rs (st ++ [0]) = none
  | [], rs, r, h => by unfold rowAt at h; cases h
  | [i], rs, r, h => by
    show rowAt rs (i :: 0 :: []) = none
    conv => lhs; rw [rowAt]
    cases getI rs i with
    | none => rfl
    | some x => cases x <;> simp [rowAt]
  | i :: j :: st, rs, r, h => by
    show rowAt rs (i :: j :: (st ++ [0])) = none
    conv => lhs; rw [rowAt]
    conv at h => lhs; rw [rowAt]
    cases e : getI rs i with
    | none => rfl
    | some x =>
      rw [e] at h
      cases x with
      | ite s u y n =>
        dsimp only at h ⊢
        by_cases h0 : j = 0
        · rw [if_pos h0] at h ⊢; exact rowAt_zero st h
        · rw [if_neg h0] at h ⊢
          by_cases h1 : j = 1
          · rw [if_pos h1] at h ⊢; exact rowAt_zero st h
          · rw [if_neg h1]
      | _ => rfl
theorem rowAt_neg : ∀ (st : List Int) (rs : List Td.Row), rowAt rs (st ++ [-1]) = none
  | [], rs => by
    show rowAt rs [-1] = none
    unfold rowAt getI
    rfl
  | [i], rs => by
    show rowAt rs (i :: -1 :: []) = none
    conv => lhs; rw [rowAt]
    cases getI rs i with
    | none => rfl
    | some x => cases x <;> rfl
  | i :: j :: st, rs => by
    show rowAt rs (i :: j :: (st ++ [-1])) = none
    conv => lhs; rw [rowAt]
    cases getI rs i with
    | none => rfl
    | some x =>
      cases x with
      | ite s u y n =>
        dsimp only
        rw [rowAt_neg st y, rowAt_neg st n]
        split <;> (try split) <;> rfl
      | _ => rfl
/-- data that is no change of the program -/
def NoChg (p : PP) (d : PyData) : Prop := ∃ c, CF d c ∧ chgOk p c = false ∧ d.canLay0 = true ∧ d.depth ≤ 40
theorem chgOk_none {p : PP} {z : Str} {o : Option (Bool × Int × List Int)} (h : rowP p o = none) : chgOk p (some (z, o)) = false := by
  show (isRdO (rowP p o) && _) = false
  rw [h]; rfl
theorem no_flat {p : PP} {d : PyData} (h : isTup d = false) (l : d.canLay0 = true ∧ d.depth ≤ 40) : NoChg p d := ⟨none, .no h, rfl, l⟩
theorem no_two {p : PP} {z : Str} {d : PyData} {o : Option (Bool × Int × List Int)} (h : PF d o) (hn : chgOk p (some (z, o)) = false) (hz : (PyData.str z).canLay0 = true) (l : d.canLay0 = true ∧ d.depth ≤ 30) : NoChg p (.tuple [.str z, d]) := by
  refine ⟨_, .two h, hn, ?_, ?_⟩
  · show ((PyData.str z).canLay0 && (d.canLay0 && true)) = true
    rw [hz, l.1]; rfl
  · have := l.2
    simp only [PyData.depth, PyData.depthAll]
    omega
def chS2 (b : Bool) : Str := if b then "early" else "peek"
theorem chS2_lay (b : Bool) : (PyData.str (chS2 b)).canLay0 = true := by cases b <;> decide +kernel
theorem ways_lay (a : Way) (X : List PyData) (h : PyData.canLayAll0 X = true ∧ PyData.depthAll X ≤ 3) : (PyData.tuple (.str (kdW a.e) :: .int (a.i : Nat) :: X)).canLay0 = true ∧ (PyData.tuple (.str (kdW a.e) :: .int (a.i : Nat) :: X)).depth ≤ 5 := by
  have h0 : (PyData.str (kdW a.e)).canLay0 = true := by cases a.e <;> decide +kernel
  refine ⟨?_, ?_⟩
  · show ((PyData.str (kdW a.e)).canLay0 && (true && PyData.canLayAll0 X)) = true
    rw [h0, h.1]; rfl
  · have := h.2
    simp only [PyData.depth, PyData.depthAll]
    omega
theorem all_append : ∀ (X : List PyData) (d : PyData) {n : Nat}, (PyData.canLayAll0 X = true ∧ PyData.depthAll X ≤ n) → (d.canLay0 = true ∧ d.depth ≤ n) → PyData.canLayAll0 (X ++ [d]) = true ∧ PyData.depthAll (X ++ [d]) ≤ n
  | [], d, n, _, h => ⟨by show (d.canLay0 && true) = true; rw [h.1]; rfl, by have := h.2; simp only [List.nil_append, PyData.depthAll]; omega⟩
  | x :: X, d, n, hx, h => by
    have h1 : (x.canLay0 && PyData.canLayAll0 X) = true := hx.1
    rw [Bool.and_eq_true] at h1
    have h2 := hx.2
    simp only [PyData.depthAll] at h2
    obtain ⟨a, b⟩ := all_append X d (n := n) ⟨h1.2, by omega⟩ h
    refine ⟨?_, ?_⟩
    · show (x.canLay0 && PyData.canLayAll0 (X ++ [d])) = true
      rw [h1.1, a]; rfl
    · rw [List.cons_append]
      simp only [PyData.depthAll]
      omega
def spNoChg (K : PySem.W.Frag) : Sp := fun vs H Q _ => ∃ (st sc : Addr) (v : V) (p : PP) (m : Nat), vs = [.ref st, v] ∧ StOk H st sc ∧ Tn K H v p.data ∧ p.Ok m ∧ m ≤ 16 ∧
  ∀ (x : V) (d : PyData) H', Keep st H H' → StOk H' st sc → Dp K H' x d → NoChg p d → Q x H'
theorem if_share {c : Bool} {W T R : Prop} (hT : c = true ∨ W → T) (hR : (c = true ∨ W → T) → c = false → R) : if c = true then T else R := by
  cases c with
  | false => exact hR hT rfl
  | true => exact hT (.inl rfl)
theorem in_shape {p : PP} {a : Way} {r : Td.Row} {q0 : Str × List Td.Row} (h1 : (bodiesOf p a.e)[a.i]? = some q0) : ∀ st, rowP p (some (a.e, ((a.i : Nat) : Int), st)) = rowAt q0.2 st := fun st => by
  show ((getI (bodiesOf p a.e) ((a.i : Nat) : Int)).bind fun q => rowAt q.2 st) = _
  rw [getI_nat, h1]
  rfl
theorem ibs_of (st : List Int) (x : Sum Int Bool) : (st.map Sum.inl ++ [x]).map ibD = st.map PyData.int ++ [ibD x] ∧ ((st.map Sum.inl ++ [x] : List (Sum Int Bool)).all isL) = isL x := by
  obtain ⟨a, b, _⟩ := left_map st
  refine ⟨by rw [List.map_append, a]; rfl, ?_⟩
  rw [List.all_append, b, Bool.true_and]
  show (isL x && true) = isL x
  rw [Bool.and_true]
theorem lefts_app (st : List Int) (i : Int) : lefts (st.map Sum.inl ++ [Sum.inl i]) = st ++ [i] := by
  induction st with
  | nil => rfl
  | cons j st ih => show j :: lefts (st.map Sum.inl ++ [Sum.inl i]) = j :: (st ++ [i]); rw [ih]
/-- one more step, or another last one -/
theorem no_steps {p : PP} {a : Way} {q0 : Str × List Td.Row} (h1 : (bodiesOf p a.e)[a.i]? = some q0) (b : Bool) (st : List Int) (x : Sum Int Bool) (hl : st.length ≤ 50) (hx : ∀ i, x = .inl i → rowAt q0.2 (st ++ [i]) = none) :
    NoChg p (.tuple [.str (chS2 b), .tuple (.str (kdW a.e) :: .int (a.i : Nat) :: (st.map PyData.int ++ [ibD x]))]) := by
  obtain ⟨e1, e2⟩ := ibs_of st x
  have pf := PF.ib a.e ((a.i : Nat) : Int) (L := st.map Sum.inl ++ [x]) (by simp) (by rw [List.length_append, List.length_map]; show st.length + 1 ≤ 60; omega)
  rw [e1] at pf
  refine no_two pf (chgOk_none ?_) (chS2_lay b) ?_
  · unfold pathOf
    rw [e2]
    cases x with
    | inr c => rfl
    | inl i =>
      show rowP p (if true = true then some (a.e, ((a.i : Nat) : Int), lefts (st.map Sum.inl ++ [Sum.inl i])) else none) = none
      rw [if_pos rfl, lefts_app]
      show ((getI (bodiesOf p a.e) ((a.i : Nat) : Int)).bind fun q => rowAt q.2 (st ++ [i])) = none
      rw [getI_nat, h1]
      exact hx i rfl
  · obtain ⟨l1, l2⟩ := ints_lay st
    have := ways_lay a (st.map PyData.int ++ [ibD x]) (all_append _ _ ⟨l1, by omega⟩ (by cases x <;> exact ⟨rfl, by simp [ibD, PyData.depth]⟩))
    exact ⟨this.1, by omega⟩
theorem chgOk_word {p : PP} {z : Str} {o : Option (Bool × Int × List Int)} (h1 : z ≠ "early") (h2 : z ≠ "peek") : chgOk p (some (z, o)) = false := by
  show (isRdO (rowP p o) && (decide (z = "early") || (decide (z = "peek") && _))) = false
  rw [decide_eq_false h1, decide_eq_false h2]
  simp
theorem ints_one {K : PySem.W.Frag} {H : Hp} {x : V} {d : PyData} (h : Dp K H x d) : ∀ st : List Int, DpAll K H (st.map V.int ++ [x]) (st.map PyData.int ++ [d])
  | [] => .cons h .nil
  | i :: st => .cons (.int i) (ints_one h st)
theorem ways_all {K : PySem.W.Frag} {H : Hp} (a : Way) : DpAll K H a.vs a.ds := .cons (.str _) (.cons (.int _) (TnAll.dp (ints_tn _)))
theorem cut_butlast (xs : List V) (h : 1 ≤ xs.length) : cutV xs none (some (-1)) = xs.take (xs.length - 1) := by
  unfold cutV
  rw [HT.sIx_none, List.drop_zero, Nat.sub_zero]
  congr 1
  unfold HT.sIx
  first
    | omega
    | (simp; omega)
section
variable {P : Program} {w : World} {K : PySem.W.Frag} {mg : Str → Option Value} {base : Heap}
theorem ok_no_change (T : Tops w K mg)
    (G__law_draw : FnOk P w K mg base CX0 1 T.a__law_draw T.d__law_draw ["_law_state_here", "_law_many_here"] spDraw)
    (G__law_all_paths : FnOk P w K mg base CX0 5 T.a__law_all_paths T.d__law_all_paths ["_law_parts_here"] (spPrsAll K)) :
    FnOk P w K mg base CX0 6 T.a__law_no_change T.d__law_no_change ["_law_state_here", "_law_parts_here"] (spNoChg K) := by
  refine T.F__law_no_change.ok sc_law_no_change (fun vs H Q E h => ?_) (fun cdv A outer s H vs Q E hr h => ?_)
  · obtain ⟨st, sc, v, p, m, rfl, _⟩ := h
    rfl
  obtain ⟨st, sc, v, p, m, rfl, o0, hD, ok, hm, q⟩ := h
  refine ⟨_, (pss_cons (ps_set (i := 2) sc_law_no_change.nd rfl (Or.inl rfl) (pe_call G__law_all_paths (hr.mono (by omega)) rfl T.m__law_all_paths T.F__law_all_paths.kp T.b__law_all_paths .nil pass0 (pa_cons (pv 1) pa_nil)))
    (pss_cons (ps_set (i := 3) sc_law_no_change.nd rfl (Or.inl rfl) (pe_call G__law_draw (hr.mono (by omega)) rfl T.m__law_draw T.F__law_draw.kp T.b__law_draw .nil pass0 (pa_cons (pv 0) (pa_cons pe_int pa_nil))))
    (pss_cons (ps_if (PW.pt (pw_or (pt_cmpR op_eq (pv 3) pe_int (nomark _)) (pw_or1 (pt_cmpR op_eq (pe_callB call_len rfl T.z_len PySem.boot_len (pa_cons (pv 2) pa_nil)) pe_int (nomark _))))) (pss_one (ps_ret (pe_ix ix_tup (pe_tup (pa_cons pe_non (pa_cons (pe_tup pa_nil) (pa_cons pe_str (pa_cons (pe_lst pa_nil) (pa_cons (pe_tup (pa_cons pe_str (pa_cons (pe_tup pa_nil) pa_nil))) (pa_cons (pe_tup (pa_cons pe_str (pa_cons (pe_tup (pa_cons pe_str (pa_cons pe_int (pa_cons pe_int pa_nil)))) pa_nil))) pa_nil))))))) (pe_call G__law_draw (hr.mono (by omega)) rfl T.m__law_draw T.F__law_draw.kp T.b__law_draw .nil pass0 (pa_cons (pv 0) (pa_cons pe_int pa_nil))) (fun _ _ => rfl)))) pss_nil)
    (pss_cons (ps_set (i := 4) sc_law_no_change.nd rfl (Or.inl rfl) (pe_ix ix_list (pv 2) (pe_call G__law_draw (hr.mono (by omega)) rfl T.m__law_draw T.F__law_draw.kp T.b__law_draw .nil pass0 (pa_cons (pv 0) (pa_cons (pe_callB call_len rfl T.z_len PySem.boot_len (pa_cons (pv 2) pa_nil)) pa_nil))) (fun _ _ => rfl)))
    (pss_cons (ps_set (i := 5) sc_law_no_change.nd rfl (Or.inl rfl) (pe_ix ix_tup (pe_tup (pa_cons pe_str (pa_cons pe_str pa_nil))) (pe_call G__law_draw (hr.mono (by omega)) rfl T.m__law_draw T.F__law_draw.kp T.b__law_draw .nil pass0 (pa_cons (pv 0) (pa_cons pe_int pa_nil))) (fun _ _ => rfl)))
    (pss_cons (ps_if (pt_cmpR op_eq (pv 3) pe_int (nomark _)) (pss_one (ps_ret (pe_tup (pa_cons pe_str (pa_cons (pe_ix ix_tup (pv 4) pe_int (fun _ _ => rfl)) pa_nil))))) pss_nil)
    (pss_cons (ps_if (pt_cmpR op_eq (pv 3) pe_int (nomark _)) (pss_one (ps_ret (pe_tup (pa_cons (pv 5) (pa_cons (pe_callTy call_list_of rfl T.z_list (by decide +kernel) (pa_cons (pe_ix ix_tup (pv 4) pe_int (fun _ _ => rfl)) pa_nil)) pa_nil))))) pss_nil)
    (pss_cons (ps_if (pt_cmpR op_eq (pv 3) pe_int (nomark _)) (pss_one (ps_ret (pe_tup (pa_cons (pv 5) (pa_cons (pe_slice sl_tupA (pe_ix ix_tup (pv 4) pe_int (fun _ _ => rfl)) po_none (po_some pe_int)) pa_nil))))) pss_nil)
    (pss_cons (ps_if (pt_cmpR op_eq (pv 3) pe_int (nomark _)) (pss_one (ps_ret (pe_lst (pa_cons (pv 5) (pa_cons (pe_ix ix_tup (pv 4) pe_int (fun _ _ => rfl)) pa_nil))))) pss_nil)
    (pss_cons (ps_if (pt_cmpR op_eq (pv 3) pe_int (nomark _)) (pss_one (ps_ret (pe_tup (pa_cons (pv 5) (pa_cons (pe_ix ix_tup (pv 4) pe_int (fun _ _ => rfl)) (pa_cons pe_int pa_nil)))))) pss_nil)
    (pss_cons (ps_if (pt_cmpR op_eq (pv 3) pe_int (nomark _)) (pss_one (ps_ret (pe_tup (pa_cons (pv 5) (pa_cons (pe_op op_catA (pe_ix ix_tup (pv 4) pe_int (fun _ _ => rfl)) (pe_tup (pa_cons pe_int pa_nil))) pa_nil))))) pss_nil)
    (pss_one (ps_ret (pe_tup (pa_cons (pv 5) (pa_cons (pe_op op_catA (pe_slice sl_tupA (pe_ix ix_tup (pv 4) pe_int (fun _ _ => rfl)) po_none (po_some (pe_un un_neg pe_int))) (pe_tup (pa_cons (pe_ifExp (pt_cmpR op_eq (pe_ix ix_tup (pe_ix ix_tup (pv 4) pe_int (fun _ _ => rfl)) (pe_un un_neg pe_int) (fun _ _ => rfl)) pe_int (nomark _)) pe_bl (pe_ifExp (pt_cmpR op_eq (pe_ix ix_tup (pe_ix ix_tup (pv 4) pe_int (fun _ _ => rfl)) (pe_un un_neg pe_int) (fun _ _ => rfl)) pe_int (nomark _)) pe_bl (pe_un un_neg pe_int))) pa_nil))) pa_nil)))))))))))))))), ?_⟩
  refine ⟨_, rfl, v, p, m, rfl, hD, ok, hm, fun l xs H1 s1 n1 hl hT => ?_⟩
  have o1 := stGo o0 s1
  refine ⟨_, rfl, st, sc, 8, rfl, by decide, by decide, o1, fun r H2 r0 r1 k2 o2 _ => ?_⟩
  have k12 : Keep st H H2 := Keep.trans (fun b o _ e => s1 b o e) k2
  have nls : l ≠ st := (o0.ne n1).1
  have hl2 : H2 l = some (.lst xs) := k2 _ _ nls hl
  have hT2 := TnAll.keep (TK.of_keep k2 o1.chg) hT
  have xl : xs.length = (prsAll p).length := by have := hT.length; rwa [List.length_map] at this
  have x160 := prsAll_len ok hm
  refine ⟨_, rfl, rfl, _, rfl, if_share (W := xs.length = 0) (fun _ => ?_) (fun F hk0 => ?_)⟩
  · refine ⟨by show 0 ≤ sizeLine; decide, fun u1 hu1 => ⟨by show 0 ≤ sizeLine; decide, fun u2 hu2 => ⟨by show 0 ≤ sizeLine; decide, fun u3 hu3 => ⟨by show 2 ≤ sizeLine; decide, fun u4 hu4 => ⟨by show 3 ≤ sizeLine; decide, fun u5 hu5 => ⟨by show 2 ≤ sizeLine; decide, fun u6 hu6 => ⟨by show 6 ≤ sizeLine; decide, fun u7 hu7 => ?_⟩⟩⟩⟩⟩⟩⟩
    have z1 := Same.new hu1 (.tup [])
    have z2 := Same.new hu2 (.lst [])
    have z3 := Same.new hu3 (.tup [])
    have z4 := Same.new hu4 (.tup [V.str "early", .ref u3])
    have z5 := Same.new hu5 (.tup [V.str "derived", .int 9, .int 0])
    have z6 := Same.new hu6 (.tup [V.str "early", .ref u5])
    have z7 := Same.new hu7 (.tup [V.non, .ref u1, .str "peek", .ref u2, .ref u4, .ref u6])
    have z57 := z6.trans z7
    have z47 := z5.trans z57
    have z37 := z4.trans z47
    have z27 := z3.trans z37
    have z17 := z2.trans z27
    have z07 := z1.trans z17
    have o7 := stGo o2 z07
    have n2 : u2 ≠ st := ((stGo o2 z1).ne hu2).1
    refine ⟨_, rfl, st, sc, 6, rfl, by decide, by decide, o7, fun b H3 b0 b1 k3 o3 _ => ?_⟩
    have tk3 := TK.of_keep k3 o7.chg
    have g7 := SqT.tk tk3 (SqT.of (K := K) (upd_same (H := upd (upd (upd (upd (upd (upd H2 u1 (.tup [])) u2 (.lst [])) u3 (.tup [])) u4 (.tup [V.str "early", .ref u3])) u5 (.tup [V.str "derived", .int 9, .int 0])) u6 (.tup [V.str "early", .ref u5])) (a := u7) (o := .tup [V.non, .ref u1, .str "peek", .ref u2, .ref u4, .ref u6])))
    have g1 : Dp K H3 (.ref u1) (.tuple []) := .tup (SqT.tk tk3 (SqT.same z17 (SqT.of upd_same))) .nil
    have g2 : Dp K H3 (.ref u2) (.list []) := .lst (SqL.of (k3 _ _ n2 (z27 _ _ upd_same))) .nil
    have g3 : Dp K H3 (.ref u3) (.tuple []) := .tup (SqT.tk tk3 (SqT.same z37 (SqT.of upd_same))) .nil
    have g4 : Dp K H3 (.ref u4) (.tuple [.str "early", .tuple []]) := .tup (SqT.tk tk3 (SqT.same z47 (SqT.of upd_same))) (.cons (.str _) (.cons g3 .nil))
    have g5 : Dp K H3 (.ref u5) (.tuple [.str "derived", .int 9, .int 0]) := .tup (SqT.tk tk3 (SqT.same z57 (SqT.of upd_same))) (.cons (.str _) (.cons (.int _) (.cons (.int _) .nil)))
    have g6 : Dp K H3 (.ref u6) (.tuple [.str "early", .tuple [.str "derived", .int 9, .int 0]]) := .tup (SqT.tk tk3 (SqT.same z7 (SqT.of upd_same))) (.cons (.str _) (.cons g5 .nil))
    obtain ⟨x, d, hx, hd, hn⟩ : ∃ x d, atI [V.non, .ref u1, .str "peek", .ref u2, .ref u4, .ref u6] b = some x ∧ Dp K H3 x d ∧ NoChg p d := by
      have hb : b = 0 ∨ b = 1 ∨ b = 2 ∨ b = 3 ∨ b = 4 ∨ b = 5 := by omega
      rcases hb with rfl | rfl | rfl | rfl | rfl | rfl
      · exact ⟨_, _, atI_nat (j := 0) rfl, .non, no_flat rfl ⟨rfl, by decide +kernel⟩⟩
      · exact ⟨_, _, atI_nat (j := 1) rfl, g1, none, .len (by decide) (by decide), rfl, by decide +kernel, by decide +kernel⟩
      · exact ⟨_, _, atI_nat (j := 2) rfl, .str _, no_flat rfl ⟨by decide +kernel, by decide +kernel⟩⟩
      · exact ⟨_, _, atI_nat (j := 3) rfl, g2, no_flat rfl ⟨by decide +kernel, by decide +kernel⟩⟩
      · exact ⟨_, _, atI_nat (j := 4) rfl, g4, no_two (.short (by decide)) (chgOk_none rfl) (by decide +kernel) ⟨by decide +kernel, by decide +kernel⟩⟩
      · refine ⟨_, _, atI_nat (j := 5) rfl, g6, no_two (PF.ib false 9 (L := [.inl 0]) (by simp) (by decide)) (chgOk_none ?_) (by decide +kernel) ⟨by decide +kernel, by decide +kernel⟩⟩
        have d6 := ok.d6
        show ((getI p.derived ((9 : Nat) : Int)).bind fun q => rowAt q.2 [0]) = none
        rw [getI_nat, List.getElem?_eq_none (by omega)]
        rfl
    exact ⟨u7, _, b, x, rfl, rfl, g7, hx, q x d H3 ((k12.trans (fun b o _ e => z07 b o e)).trans k3) o3 hd hn⟩
  have hr0 : r ≠ 0 := fun z => by rw [z] at hk0; exact absurd hk0 (by decide +kernel)
  refine ⟨_, rfl, .ref l, _, rfl, .inl ⟨_, SqL.of hl2, rfl⟩, rfl, _, rfl, ?_⟩
  by_cases hx0 : xs.length = 0
  · exact if_true_of (decide_eq_true (by rw [hx0]; rfl)) (F (.inr hx0))
  refine if_false_of (decide_eq_false fun z => hx0 (by injection z with z; omega)) ?_
  clear F
  refine ⟨_, rfl, _, rfl, _, rfl, .ref l, xs.length, rfl, .inl ⟨_, SqL.of hl2, rfl⟩, st, sc, (xs.length : Nat), rfl, by omega, by omega, o2, fun j H3 j0 j1 k3 o3 _ => ?_⟩
  have tk3 := TK.of_keep k3 o2.chg
  have jl : j.toNat < xs.length := by omega
  have ej : j = ((j.toNat : Nat) : Int) := by omega
  have hx : xs[j.toNat]? = some xs[j.toNat] := List.getElem?_eq_getElem jl
  obtain ⟨dj, hdj, hpj⟩ := TnAll.get hT2 hx
  rw [List.getElem?_map] at hdj
  obtain ⟨c, hc, rfl⟩ := Option.map_eq_some_iff.mp hdj
  have hcm := List.mem_of_getElem? hc
  obtain ⟨q0, h1, h2, h3⟩ := prsAll_at ok hcm
  obtain ⟨a, rw0⟩ := c
  dsimp only at h1 h2 h3
  have hne := rowAt_ne h2
  generalize xs[j.toNat] = xv at hx hpj
  obtain ⟨pr, b, xr, rfl, hPr, hB, _⟩ := pr_tn hpj
  refine ⟨l, _, j, .ref pr, rfl, rfl, SqL.of (k3 _ _ nls hl2), by rw [ej]; exact atI_nat hx, ?_⟩
  refine ⟨by show 2 ≤ sizeLine; decide, fun u hu => ?_⟩
  have zu := Same.new hu (.tup [V.str "peek", .str "early"])
  have o3u := stGo o3 zu
  refine ⟨_, rfl, st, sc, 2, rfl, by decide, by decide, o3u, fun t H4 t0 t1 k4 o4 _ => ?_⟩
  have tk4 := TK.of_keep k4 o3u.chg
  obtain ⟨wb, hwb⟩ : ∃ wb, atI [V.str "peek", .str "early"] t = some (.str (chS2 wb)) := by
    have ht : t = 0 ∨ t = 1 := by omega
    rcases ht with rfl | rfl
    · exact ⟨false, atI_nat (j := 0) rfl⟩
    · exact ⟨true, atI_nat (j := 1) rfl⟩
  refine ⟨u, _, t, .str (chS2 wb), rfl, rfl, SqT.tk tk4 (SqT.of upd_same), hwb, ?_⟩
  have k14 : Keep st H H4 := ((k12.trans k3).trans (fun b o _ e => zu b o e)).trans k4
  have tk24 := ((tk3.trans (TK.of_same zu)).trans tk4)
  have hPr4 := SqT.tk tk24 hPr
  have hB4 : SqT K H4 b a.vs := SqT.tk tk24 hB
  clear hT hT2 hpj
  have out : ∀ (x : V) (d : PyData) H', Same H4 H' → Dp K H' x d → NoChg p d → Q x H' := fun x d H' s' hd hn => q x d H' (k14.trans fun b o _ e => s' b o e) (stGo o4 s') hd hn
  have wayD : ∀ H', Same H4 H' → Dp K H' (.ref b) a.data := fun H' s' => Tn.dp (Way.tn (SqT.same s' hB4))
  have hst : a.st.length ≤ 32 := by omega
  obtain ⟨wl1, wl2⟩ := way_lay a
  have hvs : a.vs.length = a.st.length + 2 := by unfold Way.vs; simp
  have e0 : atI [V.ref b, xr] 0 = some (.ref b) := atI_nat (j := 0) rfl
  have cl := chS2_lay wb
  have hr : r = 1 ∨ r = 2 ∨ r = 3 ∨ r = 4 ∨ r = 5 ∨ r = 6 ∨ r = 7 := by omega
  rcases hr with rfl | rfl | rfl | rfl | rfl | rfl | rfl
  · refine ⟨_, rfl, rfl, _, rfl, if_true_of rfl ?_⟩
    refine ⟨_, rfl, pr, _, 0, .ref b, rfl, rfl, hPr4, e0, by show 2 ≤ sizeLine; decide, fun t ht => ?_⟩
    have zt := Same.new ht (.tup [V.str "read", .ref b])
    exact out _ _ _ zt (.tup (SqT.of upd_same) (.cons (.str _) (.cons (wayD _ zt) .nil))) (no_two (way_pf hne (by omega)) (chgOk_word (by decide) (by decide)) (by decide +kernel) ⟨wl1, by omega⟩)
  · refine ⟨_, rfl, rfl, _, rfl, if_false_of rfl ⟨_, rfl, rfl, _, rfl, if_true_of rfl ?_⟩⟩
    refine ⟨_, rfl, _, rfl, pr, _, 0, .ref b, rfl, rfl, hPr4, e0, b, _, rfl, .inr hB4, fun l2 hl2 => ⟨by show 2 ≤ sizeLine; decide, fun t ht => ?_⟩⟩
    have z1 := Same.new hl2 (.lst a.vs)
    have z2 := Same.new ht (.tup [V.str (chS2 wb), .ref l2])
    refine out _ _ _ (z1.trans z2) (.tup (SqT.of upd_same) (.cons (.str _) (.cons (.lst (SqL.of (z2 _ _ upd_same)) (ways_all a)) .nil))) (no_two (PF.non rfl) (chgOk_none rfl) cl ?_)
    unfold Way.data at wl1 wl2
    simp only [PyData.canLay0, PyData.depth] at wl1 wl2 ⊢
    exact ⟨wl1, by omega⟩
  · refine ⟨_, rfl, rfl, _, rfl, if_false_of rfl ⟨_, rfl, rfl, _, rfl, if_false_of rfl ⟨_, rfl, rfl, _, rfl, if_true_of rfl ?_⟩⟩⟩
    refine ⟨_, rfl, _, rfl, pr, _, 0, .ref b, rfl, rfl, hPr4, e0, ?_⟩
    dsimp only [tNoPart]
    refine ⟨2, rfl, sl_all hB4 fun c H5 s5 hc => ?_⟩
    rw [show cutV a.vs none (some (2 : Int)) = a.vs.take 2 from cut_to _ 2 (by omega)] at hc
    have hc2 : SqT K H5 c [.str (kdW a.e), .int (a.i : Nat)] := hc
    refine ⟨by show 2 ≤ sizeLine; decide, fun t ht => ?_⟩
    have z2 := Same.new ht (.tup [V.str (chS2 wb), .ref c])
    refine out _ _ _ (s5.trans z2) (.tup (SqT.of upd_same) (.cons (.str _) (.cons (.tup (SqT.same z2 hc2) (.cons (.str _) (.cons (.int _) .nil))) .nil))) (no_two (PF.short (by show 2 < 3; decide)) (chgOk_none rfl) cl ?_)
    have := ways_lay a [] ⟨rfl, by simp [PyData.depthAll]⟩
    exact ⟨this.1, by omega⟩
  · refine ⟨_, rfl, rfl, _, rfl, if_false_of rfl ⟨_, rfl, rfl, _, rfl, if_false_of rfl ⟨_, rfl, rfl, _, rfl, if_false_of rfl ⟨_, rfl, rfl, _, rfl, if_true_of rfl ?_⟩⟩⟩⟩
    refine ⟨_, rfl, _, rfl, pr, _, 0, .ref b, rfl, rfl, hPr4, e0, by show 2 ≤ sizeLine; decide, fun t ht => ?_⟩
    have zt := Same.new ht (.lst [V.str (chS2 wb), .ref b])
    refine out _ _ _ zt (.lst (SqL.of upd_same) (.cons (.str _) (.cons (wayD _ zt) .nil))) (no_flat rfl ⟨?_, ?_⟩)
    · show ((PyData.str (chS2 wb)).canLay0 && (a.data.canLay0 && true)) = true
      rw [cl, wl1]; rfl
    · simp only [PyData.depth, PyData.depthAll]; omega
  · refine ⟨_, rfl, rfl, _, rfl, if_false_of rfl ⟨_, rfl, rfl, _, rfl, if_false_of rfl ⟨_, rfl, rfl, _, rfl, if_false_of rfl ⟨_, rfl, rfl, _, rfl, if_false_of rfl ⟨_, rfl, rfl, _, rfl, if_true_of rfl ?_⟩⟩⟩⟩⟩
    refine ⟨_, rfl, _, rfl, pr, _, 0, .ref b, rfl, rfl, hPr4, e0, by show 3 ≤ sizeLine; decide, fun t ht => ?_⟩
    have zt := Same.new ht (.tup [V.str (chS2 wb), .ref b, .int 0])
    refine out _ _ _ zt (.tup (SqT.of upd_same) (.cons (.str _) (.cons (wayD _ zt) (.cons (.int _) .nil)))) ⟨none, .len (by show 3 ≠ 2; decide) (by show 3 ≤ 100; decide), rfl, ?_, ?_⟩
    · show ((PyData.str (chS2 wb)).canLay0 && (a.data.canLay0 && true)) = true
      rw [cl, wl1]; rfl
    · simp only [PyData.depth, PyData.depthAll]; omega
  · refine ⟨_, rfl, rfl, _, rfl, if_false_of rfl ⟨_, rfl, rfl, _, rfl, if_false_of rfl ⟨_, rfl, rfl, _, rfl, if_false_of rfl ⟨_, rfl, rfl, _, rfl, if_false_of rfl ⟨_, rfl, rfl, _, rfl, if_false_of rfl ⟨_, rfl, rfl, _, rfl, if_true_of rfl ?_⟩⟩⟩⟩⟩⟩
    refine ⟨_, rfl, _, rfl, pr, _, 0, .ref b, rfl, rfl, hPr4, e0, by show 1 ≤ sizeLine; decide, fun t1 ht1 => ?_⟩
    have z1 := Same.new ht1 (.tup [V.int 0])
    refine cat_all (SqT.same z1 hB4) (SqT.of upd_same) (Nat.le_of_lt (small1000 (by show a.vs.length + 1 ≤ 1000; omega))) fun c H5 s5 hc => ⟨by show 2 ≤ sizeLine; decide, fun t ht => ?_⟩
    have z2 := Same.new ht (.tup [V.str (chS2 wb), .ref c])
    exact out _ _ _ ((z1.trans s5).trans z2) (.tup (SqT.of upd_same) (.cons (.str _) (.cons (.tup (SqT.same z2 hc) (.cons (.str _) (.cons (.int _) (ints_one (.int 0) a.st)))) .nil))) (no_steps h1 wb a.st (.inl 0) (by omega) fun i e => by cases e; exact rowAt_zero a.st h2)
  · refine ⟨_, rfl, rfl, _, rfl, if_false_of rfl ⟨_, rfl, rfl, _, rfl, if_false_of rfl ⟨_, rfl, rfl, _, rfl, if_false_of rfl ⟨_, rfl, rfl, _, rfl, if_false_of rfl ⟨_, rfl, rfl, _, rfl, if_false_of rfl ⟨_, rfl, rfl, _, rfl, if_false_of rfl ?_⟩⟩⟩⟩⟩⟩
    obtain ⟨st0, z, est⟩ : ∃ st0 z, a.st = st0 ++ [z] := ⟨_, _, (List.dropLast_concat_getLast hne).symm⟩
    have ev : a.vs = (V.str (kdW a.e) :: .int (a.i : Nat) :: st0.map V.int) ++ [.int z] := by unfold Way.vs; rw [est, List.map_append]; rfl
    refine ⟨_, rfl, _, rfl, pr, _, 0, .ref b, rfl, rfl, hPr4, e0, ?_⟩
    dsimp only [tNoPart]
    refine ⟨1, rfl, -1, rfl, sl_all hB4 fun c H5 s5 hc => ?_⟩
    rw [cut_butlast _ (by omega), ev, List.length_append, List.take_left' (by simp)] at hc
    have hst0 : st0.length ≤ 40 := by rw [est, List.length_append] at hst; omega
    have eL : atI a.vs (-1) = some (.int z) := by rw [ev]; exact atI_last _ _
    refine ⟨_, rfl, pr, _, 0, .ref b, rfl, rfl, SqT.same s5 hPr4, e0, 1, rfl, b, _, -1, .int z, rfl, rfl, SqT.same s5 hB4, eL, rfl, _, rfl, ?_⟩
    refine if_known (fun g1 => ?_) (fun g1 => ?_)
    · refine ⟨by show 1 ≤ sizeLine; decide, fun t1 ht1 => ?_⟩
      have z1 := Same.new ht1 (.tup [V.bl true])
      refine cat_all (SqT.same z1 hc) (SqT.of upd_same) (Nat.le_of_lt (small1000 (by rw [List.length_cons, List.length_cons, List.length_map]; show st0.length + 1 + 1 + 1 ≤ 1000; omega))) fun c2 H6 s6 hc2 => ⟨by show 2 ≤ sizeLine; decide, fun t ht => ?_⟩
      have z2 := Same.new ht (.tup [V.str (chS2 wb), .ref c2])
      exact out _ _ _ (((s5.trans z1).trans s6).trans z2) (.tup (SqT.of upd_same) (.cons (.str _) (.cons (.tup (SqT.same z2 hc2) (.cons (.str _) (.cons (.int _) (ints_one (d := ibD (.inr true)) (by first | exact .bool _ | exact .int _ | exact .bl _) st0)))) .nil))) (no_steps h1 wb st0 (.inr true) (by omega) fun i e => by cases e)
    · refine ⟨_, rfl, pr, _, 0, .ref b, rfl, rfl, SqT.same s5 hPr4, e0, 1, rfl, b, _, -1, .int z, rfl, rfl, SqT.same s5 hB4, eL, rfl, _, rfl, ?_⟩
      refine if_known (fun g2 => ?_) (fun g2 => ⟨1, rfl, ?_⟩)
      · refine ⟨by show 1 ≤ sizeLine; decide, fun t1 ht1 => ?_⟩
        have z1 := Same.new ht1 (.tup [V.bl false])
        refine cat_all (SqT.same z1 hc) (SqT.of upd_same) (Nat.le_of_lt (small1000 (by rw [List.length_cons, List.length_cons, List.length_map]; show st0.length + 1 + 1 + 1 ≤ 1000; omega))) fun c2 H6 s6 hc2 => ⟨by show 2 ≤ sizeLine; decide, fun t ht => ?_⟩
        have z2 := Same.new ht (.tup [V.str (chS2 wb), .ref c2])
        exact out _ _ _ (((s5.trans z1).trans s6).trans z2) (.tup (SqT.of upd_same) (.cons (.str _) (.cons (.tup (SqT.same z2 hc2) (.cons (.str _) (.cons (.int _) (ints_one (d := ibD (.inr false)) (by first | exact .bool _ | exact .int _ | exact .bl _) st0)))) .nil))) (no_steps h1 wb st0 (.inr false) (by omega) fun i e => by cases e)
      · refine ⟨by show 1 ≤ sizeLine; decide, fun t1 ht1 => ?_⟩
        have z1 := Same.new ht1 (.tup [V.int (-1)])
        refine cat_all (SqT.same z1 hc) (SqT.of upd_same) (Nat.le_of_lt (small1000 (by rw [List.length_cons, List.length_cons, List.length_map]; show st0.length + 1 + 1 + 1 ≤ 1000; omega))) fun c2 H6 s6 hc2 => ⟨by show 2 ≤ sizeLine; decide, fun t ht => ?_⟩
        have z2 := Same.new ht (.tup [V.str (chS2 wb), .ref c2])
        exact out _ _ _ (((s5.trans z1).trans s6).trans z2) (.tup (SqT.of upd_same) (.cons (.str _) (.cons (.tup (SqT.same z2 hc2) (.cons (.str _) (.cons (.int _) (ints_one (d := ibD (.inl (-1))) (by first | exact .bool _ | exact .int _ | exact .bl _) st0)))) .nil))) (no_steps h1 wb st0 (.inl (-1)) (by omega) fun i e => by cases e; exact rowAt_neg st0 _)
end
end K77
namespace K77
open PySem PySem.Spec PyProof.Rows L2 Td
theorem sm_all {k : Nat} : ∀ ds : List PyData, (∀ x ∈ ds, x.canLay0 = true ∧ x.depth ≤ k) → PyData.canLayAll0 ds = true ∧ PyData.depthAll ds ≤ k
  | [], _ => ⟨rfl, by simp [PyData.depthAll]⟩
  | d :: ds, h => by
    have h1 := h d List.mem_cons_self
    have h2 := sm_all ds fun x hx => h x (List.mem_cons_of_mem _ hx)
    refine ⟨?_, ?_⟩
    · simp only [PyData.canLayAll0, h1.1, h2.1]; rfl
    · have := h1.2; have := h2.2; simp only [PyData.depthAll]; omega
/-! ### rows and parts as data that can be laid and held against each other -/
structure ScOk (S : Sc) : Prop where
  w : ∀ z ∈ S.words, isNm z = true
  s : ∀ z ∈ S.sources, isNm z = true
  r : ∀ z ∈ S.readable, isNm z = true
theorem lay_str {z : Str} (h : isNm z = true) : (PyData.str z).canLay0 = true ∧ (PyData.str z).depth ≤ 1 := ⟨by simp only [PyData.canLay0, nm_ok h], by simp [PyData.depth]⟩
theorem lay_tup {ds : List PyData} {n : Nat} (h : ∀ x ∈ ds, x.canLay0 = true ∧ x.depth ≤ n) : (PyData.tuple ds).canLay0 = true ∧ (PyData.tuple ds).depth ≤ n + 1 := by
  obtain ⟨h1, h2⟩ := sm_all ds h
  exact ⟨by simp only [PyData.canLay0, h1], by simp only [PyData.depth]; omega⟩
theorem lay_le {d : PyData} {m n : Nat} (h : d.canLay0 = true ∧ d.depth ≤ m) (k : m ≤ n) : d.canLay0 = true ∧ d.depth ≤ n := ⟨h.1, by omega⟩
theorem lay_lit {z : Str} (h : PyData.strOk z = true) : (PyData.str z).canLay0 = true ∧ (PyData.str z).depth ≤ 1 := ⟨by simp only [PyData.canLay0, h], by simp [PyData.depth]⟩
mutual
theorem rowD_lay {S : Sc} (so : ScOk S) : ∀ (r : Td.Row) (dep : Nat), okR S dep r → (rowD r).canLay0 = true ∧ (rowD r).depth ≤ 2 + 2 * (5 - dep)
  | .rd pk c s, dep, h => by
    unfold okR at h
    unfold rowD
    refine lay_le (m := 2) (lay_tup (n := 1) fun x hx => ?_) (by omega)
    simp only [List.mem_cons, List.not_mem_nil, or_false] at hx
    rcases hx with rfl | rfl | rfl
    · cases pk <;> exact lay_lit (by decide +kernel)
    · exact lay_str (so.r _ h.2.1)
    · exact lay_str h.2.2
  | .put s w, dep, h => by
    unfold okR at h
    unfold rowD
    refine lay_le (m := 2) (lay_tup (n := 1) fun x hx => ?_) (by omega)
    simp only [List.mem_cons, List.not_mem_nil, or_false] at hx
    rcases hx with rfl | rfl | rfl
    · exact lay_lit (by decide +kernel)
    · exact lay_str h.1
    · exact lay_str (so.w _ h.2)
  | .give s, dep, h => by
    unfold okR at h
    unfold rowD
    refine lay_le (m := 2) (lay_tup (n := 1) fun x hx => ?_) (by omega)
    simp only [List.mem_cons, List.not_mem_nil, or_false] at hx
    rcases hx with rfl | rfl
    · exact lay_lit (by decide +kernel)
    · exact lay_str h.2
  | .say s, dep, h => by
    unfold okR at h
    unfold rowD
    refine lay_le (m := 2) (lay_tup (n := 1) fun x hx => ?_) (by omega)
    simp only [List.mem_cons, List.not_mem_nil, or_false] at hx
    rcases hx with rfl | rfl
    · exact lay_lit (by decide +kernel)
    · exact lay_str h.2
  | .wr c s, dep, h => by
    unfold okR at h
    unfold rowD
    refine lay_le (m := 2) (lay_tup (n := 1) fun x hx => ?_) (by omega)
    simp only [List.mem_cons, List.not_mem_nil, or_false] at hx
    rcases hx with rfl | rfl | rfl
    · exact lay_lit (by decide +kernel)
    · exact lay_str (so.s _ h.2.1)
    · exact lay_str h.2.2
  | .ite s w y n, dep, h => by
    unfold okR at h
    unfold rowD
    have hy := rowsD_lay so y (dep + 1) h.2.2.2.1
    have hn := rowsD_lay so n (dep + 1) h.2.2.2.2
    have hd := h.1
    refine lay_le (lay_tup (n := 1 + 2 * (5 - dep)) fun x hx => ?_) (by omega)
    simp only [List.mem_cons, List.not_mem_nil, or_false] at hx
    rcases hx with rfl | rfl | rfl | rfl | rfl
    · exact lay_le (lay_lit (by decide +kernel)) (by omega)
    · exact lay_le (lay_str h.2.1) (by omega)
    · exact lay_le (lay_str (so.w _ h.2.2.1)) (by omega)
    · exact ⟨by simp only [PyData.canLay0, hy.1], by simp only [PyData.depth]; omega⟩
    · exact ⟨by simp only [PyData.canLay0, hn.1], by simp only [PyData.depth]; omega⟩
theorem rowsD_lay {S : Sc} (so : ScOk S) : ∀ (rs : List Td.Row) (dep : Nat), okRs S dep rs → PyData.canLayAll0 (rowsD rs) = true ∧ PyData.depthAll (rowsD rs) ≤ 2 + 2 * (5 - dep)
  | [], dep, _ => by unfold rowsD; exact ⟨rfl, by simp [PyData.depthAll]⟩
  | r :: rs, dep, h => by
    unfold okRs at h
    have h1 := rowD_lay so r dep h.1
    have h2 := rowsD_lay so rs dep h.2
    unfold rowsD
    refine ⟨by simp only [PyData.canLayAll0, h1.1, h2.1]; rfl, ?_⟩
    have := h1.2
    have := h2.2
    simp only [PyData.depthAll]
    omega
end
theorem body_lay {S : Sc} (so : ScOk S) {rs : List Td.Row} (h : okRs S 1 rs) : (PyData.tuple (rowsD rs)).canLay0 = true ∧ (PyData.tuple (rowsD rs)).depth ≤ 20 := by
  have := rowsD_lay so rs 1 h
  exact ⟨by simp only [PyData.canLay0, this.1], by simp only [PyData.depth]; omega⟩
theorem pairs_lay {ps : List (Str × List Td.Row)} (h : ∀ q ∈ ps, isNm q.1 = true ∧ (PyData.tuple (rowsD q.2)).canLay0 = true ∧ (PyData.tuple (rowsD q.2)).depth ≤ 20) : (pairsD ps).canLay0 = true ∧ (pairsD ps).depth ≤ 22 := by
  refine lay_tup (n := 21) fun x hx => ?_
  obtain ⟨q, hq, rfl⟩ := List.mem_map.mp hx
  obtain ⟨h1, h2, h3⟩ := h q hq
  refine lay_tup (n := 20) fun y hy => ?_
  simp only [List.mem_cons, List.not_mem_nil, or_false] at hy
  rcases hy with rfl | rfl
  · exact lay_le (lay_str h1) (by omega)
  · exact ⟨h2, h3⟩
theorem strs_layD {zs : List Str} (h : ∀ z ∈ zs, isNm z = true) : (strsD zs).canLay0 = true ∧ (strsD zs).depth ≤ 2 := by
  refine lay_tup (n := 1) fun x hx => ?_
  obtain ⟨z, hz, rfl⟩ := List.mem_map.mp hx
  exact lay_str (h z hz)
section
variable {p : PP} {m : Nat}
theorem Ok_words (ok : p.Ok m) : ∀ z ∈ p.words, isNm z = true := ok.wn.good
theorem Ok_sources (ok : p.Ok m) : ∀ z ∈ p.sources, isNm z = true := fun z hz => ok.nn.good z (List.mem_append_left _ (List.mem_append_left _ hz))
theorem Ok_der (ok : p.Ok m) : ∀ q ∈ p.derived, isNm q.1 = true := fun q hq => ok.nn.good _ (List.mem_append_left _ (List.mem_append_right _ (List.mem_map.mpr ⟨q, hq, rfl⟩)))
theorem Ok_eff (ok : p.Ok m) : ∀ q ∈ p.effects, isNm q.1 = true := fun q hq => ok.nn.good _ (List.mem_append_right _ (List.mem_map.mpr ⟨q, hq, rfl⟩))
theorem Ok_cells (ok : p.Ok m) : ∀ z ∈ p.cells, isNm z = true := fun z hz => ok.nn.good z (List.mem_append_left _ hz)
theorem Ok_derBody (ok : p.Ok m) : ∀ q ∈ p.derived, (PyData.tuple (rowsD q.2)).canLay0 = true ∧ (PyData.tuple (rowsD q.2)).depth ≤ 20 := fun q hq => by
  obtain ⟨i, hi⟩ := List.getElem?_of_mem hq
  refine body_lay ⟨Ok_words ok, Ok_sources ok, fun z hz => ?_⟩ (okDer_get ok.der hi).1
  rcases List.mem_append.mp hz with h | h
  · exact Ok_sources ok z h
  · obtain ⟨r, hr, rfl⟩ := List.mem_map.mp h
    exact Ok_der ok r (List.mem_of_mem_take hr)
theorem Ok_effBody (ok : p.Ok m) : ∀ q ∈ p.effects, (PyData.tuple (rowsD q.2)).canLay0 = true ∧ (PyData.tuple (rowsD q.2)).depth ≤ 20 := fun q hq => by
  obtain ⟨i, hi⟩ := List.getElem?_of_mem hq
  exact body_lay ⟨Ok_words ok, Ok_sources ok, Ok_cells ok⟩ (okEff_get ok.eff hi).1
theorem Ok_derD (ok : p.Ok m) : (pairsD p.derived).canLay0 = true ∧ (pairsD p.derived).depth ≤ 22 := pairs_lay fun q hq => ⟨Ok_der ok q hq, Ok_derBody ok q hq⟩
theorem Ok_effD (ok : p.Ok m) : (pairsD p.effects).canLay0 = true ∧ (pairsD p.effects).depth ≤ 22 := pairs_lay fun q hq => ⟨Ok_eff ok q hq, Ok_effBody ok q hq⟩
theorem Ok_data (ok : p.Ok m) : p.data.canLay0 = true ∧ p.data.depth ≤ 23 := by
  refine lay_tup (n := 22) fun x hx => ?_
  simp only [List.mem_cons, List.not_mem_nil, or_false] at hx
  rcases hx with rfl | rfl | rfl | rfl
  · exact lay_le (strs_layD (Ok_words ok)) (by omega)
  · exact lay_le (strs_layD (Ok_sources ok)) (by omega)
  · exact Ok_derD ok
  · exact Ok_effD ok
end
theorem shape_of {d : PyData} (h : d.canLay0 = true) (k : d.depth ≤ 60) : SeqAt.shaped d = true := by
  unfold SeqAt.shaped
  rw [h, Bool.true_and]
  exact decide_eq_true (by omega)
theorem eq_same {K : PySem.W.Frag} {H : Hp} {x y : V} {d : PyData} {Q : VK} (h1 : Dp K H x d) (h2 : Dp K H y d) (hc : d.canLay0 = true) (hd : d.depth ≤ 60) (q : Q (.bl true) H) : rEqD K x y H Q :=
  ⟨d, d, h1, h2, shape_of hc hd, shape_of hc hd, by rw [SeqAt.eqv_refl d hc]; exact q⟩
theorem ne_same {K : PySem.W.Frag} {H : Hp} {x y : V} {d : PyData} {Q : VK} (h1 : Dp K H x d) (h2 : Dp K H y d) (hc : d.canLay0 = true) (hd : d.depth ≤ 60) (q : Q (.bl false) H) : rNeD K x y H Q :=
  ⟨d, d, h1, h2, shape_of hc hd, shape_of hc hd, by rw [SeqAt.eqv_refl d hc]; exact q⟩
theorem free_of {H0 H : Hp} {a : Addr} (s : Same H0 H) (h : H a = none) : H0 a = none := by
  cases e : H0 a with
  | none => rfl
  | some o => rw [s _ _ e] at h; cases h
theorem fresh_same {H H1 H' : Hp} {st : Addr} (s : Same H H1) (f : H st = none) (k : Keep st H1 H') : Same H H' := fun b o e => k b o (fun z => by rw [z, f] at e; cases e) (s b o e)
def spEq (K : PySem.W.Frag) (C : Addr) : Sp := fun vs H Q _ => ∃ (a b : Addr) (p p' : PP) (m m' : Nat), vs = [.ref a, .ref b] ∧ ProgAt K H C a p ∧ ProgAt K H C b p' ∧ p.Ok m ∧ p'.Ok m' ∧ ∀ H', Same H H' → Q (.bl (PyData.eqv p.data p'.data)) H'
theorem eqv_data (p p' : PP) : PyData.eqv p.data p'.data = (PyData.eqv (strsD p.words) (strsD p'.words) && (PyData.eqv (strsD p.sources) (strsD p'.sources) && (PyData.eqv (pairsD p.derived) (pairsD p'.derived) && PyData.eqv (pairsD p.effects) (pairsD p'.effects)))) := by
  unfold PP.data
  simp only [PyData.eqv, PyData.eqvAll, Bool.and_true]
theorem ProgAt.keep {K : PySem.W.Frag} {H H' : Hp} {C pa st : Addr} {p : PP} (h : ProgAt K H C pa p) (k : Keep st H H') (n : pa ≠ st) (ch : Chg (H st)) : ProgAt K H' C pa p := by
  obtain ⟨dx, aw, as, vd, ve, ⟨dn, en, e, hdn, hen⟩, h1, h2, h3, h4⟩ := h.ex
  have tk := TK.of_keep k ch
  exact ⟨dx, aw, as, vd, ve, ⟨dn, en, k _ _ n e, SqT.tk tk hdn, SqT.tk tk hen⟩, SqT.tk tk h1, SqT.tk tk h2, Tn.keep tk h3, Tn.keep tk h4⟩
section
variable {P : Program} {w : World} {K : PySem.W.Frag} {mg : Str → Option Value} {base : Heap}
theorem ok_prog_eq (T : Tops w K mg) : FnOk P w K mg base CX0 1 T.a_Program_eq T.d_Program_eq ["self", "other"] (spEq K T.c_Program) := by
  refine T.F_Program_eq.ok sc_Program_eq (fun vs H Q E h => ?_) (fun cdv A outer s H vs Q E hr h => ?_)
  · obtain ⟨a, b, p, p', m, m', rfl, _⟩ := h
    rfl
  obtain ⟨a, b, p, p', m, m', rfl, hP, hP', ok, ok', q⟩ := h
  obtain ⟨dx, aw, as, vd, ve, ⟨dn, en, e, hdn, hen⟩, h1, h2, h3, h4⟩ := hP.ex
  obtain ⟨dx', aw', as', vd', ve', ⟨dn', en', e', hdn', hen'⟩, g1, g2, g3, g4⟩ := hP'.ex
  rw [eqv_data] at q
  refine ⟨_, (pss_one (ps_ret (pe_and (pe_callB (C8.call_isC T.i_Program) rfl T.z_isinstance (by decide +kernel) (pa_cons (pv 1) (pa_cons (pe_glob (v := .ref T.c_Program) rfl T.m_Program rfl) pa_nil))) (pe_and (pe_cmpR (op_eqD hr.units) (pe_fld (pv 0) rfl) (pe_fld (pv 1) rfl) (nomark _)) (pe_and (pe_cmpR (op_eqD hr.units) (pe_fld (pv 0) rfl) (pe_fld (pv 1) rfl) (nomark _)) (pe_and (pe_cmpR (op_eqD hr.units) (pe_fld (pv 0) rfl) (pe_fld (pv 1) rfl) (nomark _)) (pe_one (pe_cmpR (op_eqD hr.units) (pe_fld (pv 0) rfl) (pe_fld (pv 1) rfl) (nomark _))))))))), ?_⟩
  refine ⟨_, rfl, b, dx', _, rfl, e', true, rfl, iteT ?_⟩
  refine ⟨_, rfl, a, _, dx, _, _, rfl, e, T.l_Program, T.n_Program_words, progF_words .., _, rfl, b, _, dx', _, _, rfl, e', T.l_Program, T.n_Program_words, progF_words .., strsD p.words, strsD p'.words, .tup h1 (DpAll.strs _), .tup g1 (DpAll.strs _), shape_of (strs_layD (Ok_words ok)).1 (by have := (strs_layD (Ok_words ok)).2; omega), shape_of (strs_layD (Ok_words ok')).1 (by have := (strs_layD (Ok_words ok')).2; omega), _, rfl, ?_⟩
  cases hb0 : PyData.eqv (strsD p.words) (strsD p'.words) with
  | false => rw [hb0] at q; exact if_false_of rfl (q H (Same.refl _))
  | true =>
  rw [hb0] at q
  refine if_true_of rfl ?_
  refine ⟨_, rfl, a, _, dx, _, _, rfl, e, T.l_Program, T.n_Program_sources, progF_sources .., _, rfl, b, _, dx', _, _, rfl, e', T.l_Program, T.n_Program_sources, progF_sources .., strsD p.sources, strsD p'.sources, .tup h2 (DpAll.strs _), .tup g2 (DpAll.strs _), shape_of (strs_layD (Ok_sources ok)).1 (by have := (strs_layD (Ok_sources ok)).2; omega), shape_of (strs_layD (Ok_sources ok')).1 (by have := (strs_layD (Ok_sources ok')).2; omega), _, rfl, ?_⟩
  cases hb1 : PyData.eqv (strsD p.sources) (strsD p'.sources) with
  | false => rw [hb1] at q; exact if_false_of rfl (q H (Same.refl _))
  | true =>
  rw [hb1] at q
  refine if_true_of rfl ?_
  refine ⟨_, rfl, a, _, dx, _, _, rfl, e, T.l_Program, T.n_Program_derived, progF_derived .., _, rfl, b, _, dx', _, _, rfl, e', T.l_Program, T.n_Program_derived, progF_derived .., pairsD p.derived, pairsD p'.derived, Tn.dp h3, Tn.dp g3, shape_of (Ok_derD ok).1 (by have := (Ok_derD ok).2; omega), shape_of (Ok_derD ok').1 (by have := (Ok_derD ok').2; omega), _, rfl, ?_⟩
  cases hb2 : PyData.eqv (pairsD p.derived) (pairsD p'.derived) with
  | false => rw [hb2] at q; exact if_false_of rfl (q H (Same.refl _))
  | true =>
  rw [hb2] at q
  refine if_true_of rfl ?_
  refine ⟨_, rfl, a, _, dx, _, _, rfl, e, T.l_Program, T.n_Program_effects, progF_effects .., _, rfl, b, _, dx', _, _, rfl, e', T.l_Program, T.n_Program_effects, progF_effects .., pairsD p.effects, pairsD p'.effects, Tn.dp h4, Tn.dp g4, shape_of (Ok_effD ok).1 (by have := (Ok_effD ok).2; omega), shape_of (Ok_effD ok').1 (by have := (Ok_effD ok').2; omega), ?_⟩
  exact q H (Same.refl _)
end
def spPart (K : PySem.W.Frag) : Sp := fun vs H Q _ => ∃ (a : Addr) (ns : List Int), vs = [.ref a] ∧ SqL K H a (ns.map V.int) ∧ ns.length ≤ 63 ∧ ∀ H', Same H H' → Q (.bl true) H'
theorem due_lay {p : PP} {L : List (Bool × Way)} (ok2 : (Chd p L).Ok 60) : (dueD (Chd p L)).canLay0 = true ∧ (dueD (Chd p L)).depth ≤ 30 := by
  unfold dueD
  cases manyOf (Chd p L) with
  | none =>
    have := Ok_data ok2
    refine ⟨?_, ?_⟩
    · show ((PyData.str "made").canLay0 && ((Chd p L).data.canLay0 && true)) = true
      rw [this.1]; decide +kernel
    · simp only [PyData.depth, PyData.depthAll]; omega
  | some c =>
    obtain ⟨e, i⟩ := c
    have h : (PyData.str (kdW e)).canLay0 = true := by cases e <;> decide +kernel
    refine ⟨?_, ?_⟩
    · show ((PyData.str "many").canLay0 && (((PyData.str (kdW e)).canLay0 && (true && true)) && true)) = true
      rw [h]; decide +kernel
    · simp only [PyData.depth, PyData.depthAll]; omega
theorem told_lay (i : Nat) : (chgTold i).canLay0 = true ∧ (chgTold i).depth ≤ 10 := by
  refine ⟨?_, ?_⟩
  · show ((PyData.str "change").canLay0 && (true && true)) = true
    decide +kernel
  · unfold chgTold; simp only [PyData.depth, PyData.depthAll]; omega
/-! ### one more put into a list -/
theorem put_get {α : Type} (L : List α) (a : α) {t : Nat} (ht : t ≤ L.length) (k : Nat) : (L.take t ++ a :: L.drop t)[k]? = if k < t then L[k]? else if k = t then some a else L[k - 1]? := by
  have hl : (L.take t).length = t := by rw [List.length_take]; omega
  by_cases h : k < t
  · rw [if_pos h, List.getElem?_append_left (by omega), List.getElem?_take_of_lt h]
  · rw [if_neg h, List.getElem?_append_right (by omega), hl]
    by_cases h2 : k = t
    · rw [if_pos h2, h2, Nat.sub_self]; rfl
    · rw [if_neg h2]
      obtain ⟨d, hd⟩ : ∃ d, k - t = d + 1 := ⟨k - t - 1, by omega⟩
      rw [hd, List.getElem?_cons_succ, List.getElem?_drop]
      congr 1
      omega
theorem put_take {α : Type} (L : List α) (a : α) {t j : Nat} (ht : t ≤ L.length) (hj : j ≤ t) : (L.take t ++ a :: L.drop t).take j = L.take j := by
  rw [List.take_append_of_le_length (by rw [List.length_take]; omega), List.take_take]
  congr 1
  omega
theorem put_map {α β : Type} (f : α → β) (L : List α) (a : α) (t : Nat) : (L.take t ++ a :: L.drop t).map f = (L.map f).take t ++ f a :: (L.map f).drop t := by
  rw [List.map_append, List.map_cons, List.map_take, List.map_drop]
theorem put_mem {α : Type} {L : List α} {a : α} {t : Nat} {x : α} (h : x ∈ L.take t ++ a :: L.drop t) : x = a ∨ x ∈ L := by
  rcases List.mem_append.mp h with h | h
  · exact .inr (List.mem_of_mem_take h)
  · rcases List.mem_cons.mp h with h | h
    · exact .inl h
    · exact .inr (List.mem_of_mem_drop h)
theorem put_len {α : Type} (L : List α) (a : α) (t : Nat) : (L.take t ++ a :: L.drop t).length = L.length + 1 := by
  rw [List.length_append, List.length_cons, List.length_take, List.length_drop]
  omega
/-- the second place of an item that is put in again at t -/
def again2 (j t : Nat) : Nat := if j < t then t else j + 1
def again1 (j t : Nat) : Nat := if j < t then j else t
theorem again_at {α : Type} {L : List α} (nd : L.Nodup) {a : α} {j t : Nat} (hj : L[j]? = some a) (ht : t ≤ L.length) (k : Nat) : (L.take t ++ a :: L.drop t)[k]? = some a ↔ k = again1 j t ∨ k = again2 j t := by
  rw [put_get L a ht]
  unfold again1 again2
  by_cases h : k < t
  · rw [if_pos h]
    refine ⟨fun e => ?_, fun e => ?_⟩
    · have := nd_atB nd e hj
      rw [if_pos (by omega)]
      exact .inl this
    · have : k = j := by
        rcases e with e | e
        · by_cases hh : j < t
          · rw [if_pos hh] at e; exact e
          · rw [if_neg hh] at e; omega
        · by_cases hh : j < t
          · rw [if_pos hh] at e; omega
          · rw [if_neg hh] at e; omega
      rw [this]; exact hj
  · rw [if_neg h]
    by_cases h2 : k = t
    · rw [if_pos h2]
      refine ⟨fun _ => ?_, fun _ => rfl⟩
      by_cases hh : j < t
      · rw [if_pos hh, if_pos hh]; exact .inr h2
      · rw [if_neg hh, if_neg hh]; exact .inl h2
    · rw [if_neg h2]
      refine ⟨fun e => ?_, fun e => ?_⟩
      · have := nd_atB nd e hj
        rw [if_neg (by omega), if_neg (by omega)]
        exact .inr (by omega)
      · have : k - 1 = j := by
          rcases e with e | e
          · by_cases hh : j < t
            · rw [if_pos hh] at e; omega
            · rw [if_neg hh] at e; omega
          · by_cases hh : j < t
            · rw [if_pos hh] at e; omega
            · rw [if_neg hh] at e; omega
        rw [this]; exact hj
theorem again_new {α : Type} {L : List α} (nd : L.Nodup) {a : α} {j t : Nat} (hj : L[j]? = some a) (ht : t ≤ L.length) {k : Nat} (hk : k < again2 j t) {c : α} (hc : (L.take t ++ a :: L.drop t)[k]? = some c) : c ∉ (L.take t ++ a :: L.drop t).take k := fun hm => by
  obtain ⟨m, hm⟩ := List.getElem?_of_mem hm
  have mk : m < k := by
    have := (List.getElem?_eq_some_iff.mp hm).1
    rw [List.length_take] at this
    omega
  rw [List.getElem?_take_of_lt mk] at hm
  have hc0 := hc
  have hm0 := hm
  rw [put_get L a ht] at hc hm
  unfold again2 at hk
  by_cases h : k < t
  · rw [if_pos h] at hc
    rw [if_pos (by omega)] at hm
    have := nd_atB nd hc hm
    omega
  · rw [if_neg h] at hc
    by_cases h2 : k = t
    · rw [if_pos h2] at hc
      obtain rfl := Option.some.inj hc
      rw [if_pos (by omega)] at hm
      have := nd_atB nd hm hj
      split at hk <;> omega
    · rw [if_neg h2] at hc
      by_cases h3 : m < t
      · rw [if_pos h3] at hm
        have := nd_atB nd hc hm
        omega
      · rw [if_neg h3] at hm
        by_cases h4 : m = t
        · rw [if_pos h4] at hm
          obtain rfl := Option.some.inj hm
          have := nd_atB nd hc hj
          split at hk <;> omega
        · rw [if_neg h4] at hm
          have := nd_atB nd hc hm
          omega
theorem again_len {α : Type} {L : List α} {a : α} {j t : Nat} (hj : L[j]? = some a) (ht : t ≤ L.length) : again1 j t < again2 j t ∧ again2 j t < L.length + 1 := by
  have := (List.getElem?_eq_some_iff.mp hj).1
  unfold again1 again2
  split <;> omega
theorem two_range (i1 i2 : Nat) (h : i1 < i2) : ∀ n, (List.range n).filter (fun k => decide (k = i1) || decide (k = i2)) = (if i1 < n then [i1] else []) ++ (if i2 < n then [i2] else [])
  | 0 => by simp
  | n + 1 => by
    rw [List.range_succ, List.filter_append, two_range i1 i2 h n]
    by_cases h1 : n = i1
    · subst h1
      rw [if_neg (by omega), if_neg (by omega), if_pos (by omega), if_neg (by omega)]
      simp
    · by_cases h2 : n = i2
      · subst h2
        rw [if_pos h, if_neg (by omega), if_pos (by omega), if_pos (by omega)]
        simp
      · have e : List.filter (fun k => decide (k = i1) || decide (k = i2)) [n] = [] := by simp [h1, h2]
        rw [e, List.append_nil]
        congr 1
        · by_cases hh : i1 < n
          · rw [if_pos hh, if_pos (by omega)]
          · rw [if_neg hh, if_neg (by omega)]
        · by_cases hh : i2 < n
          · rw [if_pos hh, if_pos (by omega)]
          · rw [if_neg hh, if_neg (by omega)]
theorem dp_dr {K : PySem.W.Frag} {H : Hp} : ∀ {xs : List V} {ds : List PyData} (k : Nat), DpAll K H xs ds → DpAll K H (xs.drop k) (ds.drop k)
  | _, _, 0, h => h
  | _, _, k + 1, .nil => .nil
  | _, _, k + 1, .cons a b => dp_dr k b
/-! ### lists of changes of which one is wrong -/
theorem items_cf {p : PP} {L : List (Bool × Way)} (hch : ChOk p L) (hst : ∀ c ∈ L, c.2.st.length ≤ 60) {c : PyData × Option (Str × Option (Bool × Int × List Int))} (hc : c ∈ itemsW L) : CF c.1 c.2 ∧ c.1.canLay0 = true ∧ c.1.depth ≤ 40 := by
  unfold itemsW at hc
  obtain ⟨d, hd, rfl⟩ := List.mem_map.mp hc
  obtain ⟨a, b⟩ := chg_lay d
  exact ⟨chg_cf (chg_right hch hd).2 (hst d hd), a, Nat.le_trans b (by decide)⟩
theorem bad_in {K : PySem.W.Frag} {H : Hp} {CP pa l l2 : Addr} {p : PP} {cs : List V} {L : List (Bool × Way)} (g : GoodL K H CP pa l p cs L) {t : Nat} (ht : t ≤ L.length) {x : V} {d : PyData} (hd : Dp K H x d) (no : NoChg p d) (hl : H l2 = some (.lst (cs.take t ++ x :: cs.drop t))) :
    ∃ I, BadL K H CP pa l2 p (cs.take t ++ x :: cs.drop t) I t := by
  obtain ⟨c, h1, h2, h3, h4⟩ := no
  have il : (itemsW L).length = L.length := by unfold itemsW; rw [List.length_map]
  have few := g.few
  refine ⟨(itemsW L).take t ++ (d, c) :: (itemsW L).drop t, g.prog, g.ok, hl, ?_, ?_, fun y hy => ?_, fun j hj => ?_, ?_⟩
  · rw [put_map, items_fst]
    have hC := TnAll.dp g.tn
    exact DpAll.append (dp_tk t hC) (.cons hd (dp_dr t hC))
  · rw [put_len]; omega
  · rcases put_mem hy with rfl | hy
    · exact ⟨h1, h3, h4⟩
    · exact items_cf g.ch g.st hy
  · have e := right_none g.ch g.nd j
    unfold wrongIt at e ⊢
    rw [put_get _ _ (by omega), if_pos hj, put_take _ _ (by omega) (by omega)]
    exact e
  · unfold wrongIt
    rw [put_get _ _ (by omega), if_neg (by omega), if_pos rfl]
    show (!chgOk p c || _) = true
    rw [h2]; rfl
theorem bad_again {K : PySem.W.Frag} {H : Hp} {CP pa l l2 : Addr} {p : PP} {cs : List V} {L : List (Bool × Way)} (g : GoodL K H CP pa l p cs L) {t j : Nat} (ht : t ≤ L.length) {x : V} {a : Bool × Way} (hj : L[j]? = some a) (hd : Dp K H x (chgD a)) (hl : H l2 = some (.lst (cs.take t ++ x :: cs.drop t))) :
    ∃ I, BadL K H CP pa l2 p (cs.take t ++ x :: cs.drop t) I (again2 j t) := by
  have few := g.few
  have am := List.mem_of_getElem? hj
  have hch2 : ChOk p (L.take t ++ a :: L.drop t) := ⟨fun c hc => g.ch.at_ c ((put_mem hc).elim (fun e => e ▸ am) id), fun c hc => g.ch.eff c ((put_mem hc).elim (fun e => e ▸ am) id)⟩
  have hst2 : ∀ c ∈ L.take t ++ a :: L.drop t, c.2.st.length ≤ 60 := fun c hc => g.st c ((put_mem hc).elim (fun e => e ▸ am) id)
  have wr : ∀ i, wrongIt p (itemsW (L.take t ++ a :: L.drop t)) i = match (L.take t ++ a :: L.drop t)[i]? with
      | some c => decide (c ∈ (L.take t ++ a :: L.drop t).take i)
      | none => false := fun i => by
    unfold wrongIt
    have e : (itemsW (L.take t ++ a :: L.drop t))[i]? = ((L.take t ++ a :: L.drop t)[i]?).map fun c => (chgD c, clsW c) := by unfold itemsW; rw [List.getElem?_map]
    rw [e]
    cases hc : (L.take t ++ a :: L.drop t)[i]? with
    | none => rfl
    | some c =>
      show (!chgOk p (clsW c) || hasD (chgD c) (((itemsW (L.take t ++ a :: L.drop t)).take i).map (·.1))) = decide _
      rw [(chg_right hch2 (List.mem_of_getElem? hc)).1, List.map_take, items_fst, ← List.map_take, hasD_chg]
      rfl
  refine ⟨itemsW (L.take t ++ a :: L.drop t), g.prog, g.ok, hl, ?_, ?_, fun y hy => items_cf hch2 hst2 hy, fun k hk => ?_, ?_⟩
  · rw [items_fst, put_map]
    have hC := TnAll.dp g.tn
    exact DpAll.append (dp_tk t hC) (.cons hd (dp_dr t hC))
  · unfold itemsW; rw [List.length_map, put_len]; omega
  · rw [wr]
    cases hc : (L.take t ++ a :: L.drop t)[k]? with
    | none => rfl
    | some c => exact decide_eq_false (again_new g.nd hj ht hk hc)
  · rw [wr]
    have h2 := (again_at g.nd hj ht (again2 j t)).mpr (.inr rfl)
    have h1 := (again_at g.nd hj ht (again1 j t)).mpr (.inl rfl)
    have lt := (again_len hj ht).1
    rw [h2]
    refine decide_eq_true ?_
    refine List.mem_of_getElem? (i := again1 j t) ?_
    rw [List.getElem?_take_of_lt lt]
    exact h1
end K77
namespace K77
open PySem PySem.Spec PyProof.Rows L2 Td
def spWithOk (K : PySem.W.Frag) (CP : Addr) : Sp := fun vs H Q _ => ∃ (pa l : Addr) (cs : List V) (p : PP) (L : List (Bool × Way)), vs = [.ref pa, .ref l] ∧ GoodL K H CP pa l p cs L ∧ manyOf (Chd p L) = none ∧ ∀ (x : Addr) H', Same H H' → H x = none → ProgAt K H' CP x (Chd p L) → Q (.ref x) H'
section
variable {P : Program} {w : World} {K : PySem.W.Frag} {mg : Str → Option Value} {base : Heap}
theorem ok_first_part (T : Tops w K mg)
    (G__law_state : FnOk P w K mg base CX0 1 T.a__law_state T.d__law_state ["_law_script"] (spState K))
    (G__law_draw : FnOk P w K mg base CX0 1 T.a__law_draw T.d__law_draw ["_law_state_here", "_law_many_here"] spDraw)
    (G__law_parts : FnOk P w K mg base CX0 11 T.a__law_parts T.d__law_parts ["_law_state_here", "_law_sizes", "_law_peeks", "_law_writes"] (spParts K))
    (G__law_program : FnOk P w K mg base CX0 12 T.a__law_program T.d__law_program ["_law_parts_here"] (spMadeM K T.c_Program))
    (G__law_changes : FnOk P w K mg base CX0 6 T.a__law_changes T.d__law_changes ["_law_parts_here"] (spLawChs K))
    (G__law_chosen : FnOk P w K mg base CX0 2 T.a__law_chosen T.d__law_chosen ["_law_state_here", "_law_rows_here", "_law_many_here"] (spChosen K))
    (G__law_due : FnOk P w K mg base CX0 7 T.a__law_due T.d__law_due ["_law_parts_here", "_law_chosen_here"] (spDue K))
    (G__law_with : FnOk P w K mg base CX0 14 T.a__law_with T.d__law_with ["_law_program_here", "_law_changes_here"] (spLawWith K T.c_Program))
    (G_with_changes : FnOk P w K mg base CX0 13 T.a_with_changes T.d_with_changes ["program", "changes"] (spWithOk K T.c_Program))
    (G__law_no_change : FnOk P w K mg base CX0 6 T.a__law_no_change T.d__law_no_change ["_law_state_here", "_law_parts_here"] (spNoChg K))
    (G_Program_eq : FnOk P w K mg base CX0 1 T.a_Program_eq T.d_Program_eq ["self", "other"] (spEq K T.c_Program)) :
    FnOk P w K mg base CX0 15 T.a__law_first_part T.d__law_first_part ["_law_script"] (spPart K) := by
  refine T.F__law_first_part.ok sc_law_first_part (fun vs H Q E h => ?_) (fun cdv A outer s H vs Q E hr h => ?_)
  · obtain ⟨a, ns, rfl, _⟩ := h
    rfl
  obtain ⟨a, ns, rfl, hN, hlen, q⟩ := h
  refine ⟨_, (pss_cons (ps_set (i := 1) sc_law_first_part.nd rfl (Or.inl rfl) (pe_call G__law_state (hr.mono (by omega)) rfl T.m__law_state T.F__law_state.kp T.b__law_state .nil pass0 (pa_cons (pv 0) pa_nil)))
    (pss_cons (ps_set (i := 2) sc_law_first_part.nd rfl (Or.inl rfl) (pe_call G__law_draw (hr.mono (by omega)) rfl T.m__law_draw T.F__law_draw.kp T.b__law_draw .nil pass0 (pa_cons (pv 1) (pa_cons pe_int pa_nil))))
    (pss_cons (ps_set (i := 3) sc_law_first_part.nd rfl (Or.inl rfl) (pe_call G__law_draw (hr.mono (by omega)) rfl T.m__law_draw T.F__law_draw.kp T.b__law_draw .nil pass0 (pa_cons (pv 1) (pa_cons pe_int pa_nil))))
    (pss_cons (ps_set (i := 4) sc_law_first_part.nd rfl (Or.inl rfl) (pe_call G__law_parts (hr.mono (by omega)) rfl T.m__law_parts T.F__law_parts.kp T.b__law_parts .nil pass0 (pa_cons (pv 1) (pa_cons (pe_tup (pa_cons pe_int (pa_cons pe_int (pa_cons pe_int (pa_cons pe_int (pa_cons pe_int pa_nil)))))) (pa_cons pe_bl (pa_cons pe_bl pa_nil))))))
    (pss_cons (ps_set (i := 5) sc_law_first_part.nd rfl (Or.inl rfl) (pe_call G__law_program (hr.mono (by omega)) rfl T.m__law_program T.F__law_program.kp T.b__law_program .nil pass0 (pa_cons (pv 4) pa_nil)))
    (pss_cons (ps_set (i := 6) sc_law_first_part.nd rfl (Or.inl rfl) (pe_call G__law_chosen (hr.mono (by omega)) rfl T.m__law_chosen T.F__law_chosen.kp T.b__law_chosen .nil pass0 (pa_cons (pv 1) (pa_cons (pe_call G__law_changes (hr.mono (by omega)) rfl T.m__law_changes T.F__law_changes.kp T.b__law_changes .nil pass0 (pa_cons (pv 4) pa_nil)) (pa_cons (pv 2) pa_nil)))))
    (pss_cons (ps_set (i := 7) sc_law_first_part.nd rfl (Or.inl rfl) (pe_call G__law_due (hr.mono (by omega)) rfl T.m__law_due T.F__law_due.kp T.b__law_due .nil pass0 (pa_cons (pv 4) (pa_cons (pv 6) pa_nil))))
    (C8.pss_cut (ps_set (i := 8) sc_law_first_part.nd rfl (Or.inl rfl) (pe_ifExp (pt_cmpR op_eq (pv 3) pe_int (nomark _)) (pe_callTy (T := "tuple") call_tuple_of rfl T.z_tuple (by decide +kernel) (pa_cons (pv 6) pa_nil)) (pe_callTy call_list_of rfl T.z_list (by decide +kernel) (pa_cons (pv 6) pa_nil))))
    (pss_cons (ps_if (PW.pt (pw_or (pt_cmpR (op_neD hr.units) (pe_call G__law_with (hr.mono (by omega)) rfl T.m__law_with T.F__law_with.kp T.b__law_with .nil pass0 (pa_cons (pv 5) (pa_cons (pv 8) pa_nil))) (pv 7) (nomark _)) (pw_or1 (pt_cmpR (op_neD hr.units) (pe_callTy call_list_of rfl T.z_list (by decide +kernel) (pa_cons (pv 8) pa_nil)) (pv 6) (nomark _))))) (pss_one (ps_ret pe_bl)) pss_nil)
    (pss_cons (ps_if (pt_cmpR (op_neO G_Program_eq T.xq_Program T.xf_Program T.xz_Program T.xo_Program T.b_Program_eq (hr.mono (by omega))) (pv 5) (pe_call G__law_program (hr.mono (by omega)) rfl T.m__law_program T.F__law_program.kp T.b__law_program .nil pass0 (pa_cons (pv 4) pa_nil)) (nomark _)) (pss_one (ps_ret pe_bl)) pss_nil)
    (C8.pss_cut (ps_if (PW.pt (pw_and (pt_cmpR op_eq (pe_ix ix_tup (pv 7) pe_int (fun _ _ => rfl)) pe_str (nomark _)) (pw_and1 (pt_cmpR (op_neO G_Program_eq T.xq_Program T.xf_Program T.xz_Program T.xo_Program T.b_Program_eq (hr.mono (by omega))) (pe_call G_with_changes (hr.mono (by omega)) rfl T.m_with_changes T.F_with_changes.kp T.b_with_changes .nil pass0 (pa_cons (pv 5) (pa_cons (pv 8) pa_nil))) (pe_call G__law_program (hr.mono (by omega)) rfl T.m__law_program T.F__law_program.kp T.b__law_program .nil pass0 (pa_cons (pe_ix ix_tup (pv 7) pe_int (fun _ _ => rfl)) pa_nil)) (nomark _))))) (pss_one (ps_ret pe_bl)) pss_nil)
    (pss_cons (ps_set (i := 9) sc_law_first_part.nd rfl (Or.inl rfl) (pe_call G__law_draw (hr.mono (by omega)) rfl T.m__law_draw T.F__law_draw.kp T.b__law_draw .nil pass0 (pa_cons (pv 1) (pa_cons (pe_op op_add (pe_callB call_len rfl T.z_len PySem.boot_len (pa_cons (pv 6) pa_nil)) pe_int) pa_nil))))
    (pss_cons (ps_set (i := 10) sc_law_first_part.nd rfl (Or.inl rfl) (pe_call G__law_no_change (hr.mono (by omega)) rfl T.m__law_no_change T.F__law_no_change.kp T.b__law_no_change .nil pass0 (pa_cons (pv 1) (pa_cons (pv 4) pa_nil))))
    (pss_cons (ps_if (pt_cmpR (op_neD hr.units) (pe_call G__law_with (hr.mono (by omega)) rfl T.m__law_with T.F__law_with.kp T.b__law_with .nil pass0 (pa_cons (pv 5) (pa_cons (pe_op op_cat (pe_op op_cat (pe_slice sl_list (pv 6) po_none (po_some (pv 9))) (pe_lst (pa_cons (pv 10) pa_nil))) (pe_slice sl_list (pv 6) (po_some (pv 9)) po_none)) pa_nil))) (pe_tup (pa_cons pe_str (pa_cons (pv 9) pa_nil))) (nomark _)) (pss_one (ps_ret pe_bl)) pss_nil)
    (pss_cons (ps_if (pt_cmpR op_eq (pe_callB call_len rfl T.z_len PySem.boot_len (pa_cons (pv 6) pa_nil)) pe_int (nomark _)) (pss_one (ps_ret pe_bl)) pss_nil)
    (pss_cons (ps_set (i := 11) sc_law_first_part.nd rfl (Or.inr rfl) (pe_ix ix_list (pv 6) (pe_call G__law_draw (hr.mono (by omega)) rfl T.m__law_draw T.F__law_draw.kp T.b__law_draw .nil pass0 (pa_cons (pv 1) (pa_cons (pe_callB call_len rfl T.z_len PySem.boot_len (pa_cons (pv 6) pa_nil)) pa_nil))) (fun _ _ => rfl)))
    (pss_cons (ps_set (i := 12) sc_law_first_part.nd rfl (Or.inr rfl) (pe_op op_cat (pe_op op_cat (pe_slice sl_list (pv 6) po_none (po_some (pv 9))) (pe_lst (pa_cons (pv 11) pa_nil))) (pe_slice sl_list (pv 6) (po_some (pv 9)) po_none)))
    (pss_cons (ps_setLc (i := 13) (own := [(("_law_k" : Str), 14)]) (wi := (iRng1 (tCons (tCB (fun xs H Q => ∃ x n, xs = [x] ∧ LenV K x H n ∧ Q (V.int (n : Nat)) H) (tCons (tVar 12) tNil)) tNil))) (g := gName 14) (tt := (tTest (tOp (rEqD K) (tOp (rIxL K) (tVar 12) (tVar 14)) (tVar 11)))) (te := (tVar 14)) rfl sc_law_first_part.nd rfl rfl (sw_true rfl rfl rfl (by decide +kernel)) (pi_range1 rfl T.z_range (pa_cons (pe_callB call_len rfl T.z_len PySem.boot_len (pa_cons (pv 12) pa_nil)) pa_nil)) (blkOk_by (own := [(("_law_k" : Str), 14)]) (N := N_law_first_part) (sc := defScope s_law_first_part) (by decide +kernel)) (fun _ _ _ _ _ => (pg_name (i := 14) sc_law_first_part.nd rfl (Or.inl rfl))) (fun _ _ _ _ _ => (pts_one (pt_cmpR (op_eqD hr.units) (pe_ix (r := (rIxL K)) ix_list (pv 12) (pv 14) (fun _ _ => rfl)) (pv 11) (nomark _)))) (fun _ _ _ _ _ => (pv 14)))
    (pss_one (ps_ret (pe_cmpR (op_eqD hr.units) (pe_call G__law_with (hr.mono (by omega)) rfl T.m__law_with T.F__law_with.kp T.b__law_with .nil pass0 (pa_cons (pv 5) (pa_cons (pv 12) pa_nil))) (pe_tup (pa_cons pe_str (pa_cons (pe_ix ix_list (pv 13) pe_int (fun _ _ => rfl)) pa_nil))) (nomark _)))))))))))))))))))))), ?_⟩
  refine ⟨_, rfl, a, ns, rfl, hN, hlen, fun st sc H1 s1 f1 f2 o1 => ?_⟩
  refine ⟨_, rfl, st, sc, 13, rfl, by decide, by decide, o1, fun r H2 r0 r1 k2 o2 _ => ?_⟩
  obtain ⟨n, rfl⟩ : ∃ n : Nat, r = (n : Nat) := ⟨r.toNat, by omega⟩
  refine ⟨_, rfl, st, sc, 2, rfl, by decide, by decide, o2, fun b H2' b0 b1 k2' o2' _ => ?_⟩
  refine ⟨_, rfl, by show 5 ≤ sizeLine; decide, fun z hz => ?_⟩
  have w2 := Same.new hz (.tup [V.int 2, .int 2, .int 2, .int 2, .int 15])
  refine ⟨st, sc, z, 2, 2, 2, 2, 15, true, true, rfl, stGo o2' w2, SqT.of upd_same, (o2'.ne hz).1, by decide, by decide, by decide, by decide, by decide, by decide, by decide, by decide, by decide, by decide, fun v p H3 k3 o3 ok0 hsrc hX => ?_⟩
  have ok : p.Ok 16 := ok0
  clear ok0
  have hD : Tn K H3 v p.data := DataX.tn hX
  obtain ⟨da, aw, as, vd, ve, rfl, hV, _⟩ := parts_at hD
  have k13 : Keep st H1 H3 := ((k2.trans k2').trans fun b o _ e => w2 b o e).trans k3
  clear k2 k2' k3 w2 hX
  refine ⟨_, rfl, .ref da, p, rfl, hD, Ok60_of ok (by decide), many_none ok (by decide), fun pa H4 s4 npa hP => ?_⟩
  have o4 := stGo o3 s4
  have nps : pa ≠ st := (o3.ne npa).1
  refine ⟨_, rfl, _, rfl, .ref da, p, 16, rfl, Tn.same s4 hD, ok, by decide, fun l0 cs0 H5 s5 nl0 hl0 hC0 => ?_⟩
  have o5 := stGo o4 s5
  have cl0 : (chsAll p).length ≤ 400 := by
    have h1 := chs_len (prsAll p)
    have h2 := prsAll_len ok (by decide)
    unfold chsAll
    omega
  refine ⟨_, rfl, st, sc, l0, cs0, chsAll p, n, rfl, o5, (o4.ne nl0).1, hl0, hC0, chs_nd _ (prsAll_nd p), cl0, by omega, fun l cs L H6 k6 o6 nls hl hC nd sub ll => ?_⟩
  obtain ⟨hch, hst⟩ := chsAll_ok ok sub
  have tk6 := TK.of_keep k6 o5.chg
  have hP6 := (hP.same s5).keep k6 nps o5.chg
  have hD6 := Tn.keep tk6 (Tn.same (s4.trans s5) hD)
  have k16 : Keep st H1 H6 := (k13.trans fun b o _ e => s5 _ _ (s4 b o e)).trans k6
  have hst60 : ∀ c ∈ L, c.2.st.length ≤ 60 := fun c hc => by have := hst c hc; omega
  have gL : GoodL K H6 T.c_Program pa l p cs L := ⟨hP6, ok, .inl hl, hC, by omega, hch, nd, hst60⟩
  have cl : cs.length = L.length := by have := hC.length; rwa [List.length_map] at this
  have ok2 : (Chd p L).Ok 60 := chd_ok60 ok hch (by omega) (by decide)
  clear hP hl0 hC0 hD k13 k6
  refine ⟨_, rfl, _, rfl, .ref da, p, 16, l, cs, L, rfl, hD6, ok, by decide, hl, hC, ll, hch, fun du H7 s7 hdu => ?_⟩
  have g7 := gL.same s7
  have o7 := stGo o6 s7
  have k17 : Keep st H1 H7 := k16.trans fun b o _ e => s7 b o e
  refine ⟨fun σ' H' => ∃ g : Addr, σ' = [some (V.ref a), some (.ref st), some (.int (n : Nat)), some (.int b), some (.ref da), some (.ref pa), some (.ref l), some du, some (.ref g), none, none, none, none, none, none] ∧ Same H7 H' ∧ (H' g = some (.lst cs) ∨ SqT K H' g cs), ?_, ?_⟩
  · refine ⟨_, rfl, rfl, _, rfl, if_known (fun _ => ?_) (fun _ => ?_)⟩
    · exact ⟨_, rfl, l, cs, rfl, .inl ⟨SqL.of (s7 _ _ hl), fun g hg => ⟨g, rfl, Same.new hg _, .inr (SqT.of upd_same)⟩⟩⟩
    · exact ⟨_, rfl, l, cs, rfl, .inl (SqL.of (s7 _ _ hl)), fun g hg => ⟨g, rfl, Same.new hg _, .inl upd_same⟩⟩
  rintro σ8 H8 ⟨g, rfl, s8, hg⟩
  have g8 : GoodL K H8 T.c_Program pa g p cs L := ⟨hP6.same (s7.trans s8), ok, hg, TnAll.keep (TK.of_same (s7.trans s8)) hC, by omega, hch, nd, hst60⟩
  obtain ⟨lay1, dep1⟩ := due_lay ok2
  refine ⟨_, rfl, _, rfl, .inl ⟨pa, g, cs, p, L, rfl, g8, fun x H9 s9 hx => ?_⟩⟩
  refine ⟨_, rfl, ne_same hx (Tn.dp (Tn.same (s8.trans s9) hdu)) lay1 (by omega) ⟨_, rfl, if_false_of rfl ?_⟩⟩
  have s79 := s8.trans s9
  have hg9 : SqL K H9 g cs ∨ SqT K H9 g cs := hg.elim (fun h => .inl (SqL.of (s9 _ _ h))) fun h => .inr (SqT.same s9 h)
  refine ⟨_, rfl, g, cs, rfl, hg9, fun l9 hl9 => ?_⟩
  have z9 := Same.new hl9 (.lst cs)
  have s7A := s79.trans z9
  have s8A := s9.trans z9
  have hC7 := TnAll.keep (TK.of_same s7) hC
  obtain ⟨layL, depL⟩ := chgs_lay L
  refine ⟨_, rfl, ne_same (d := .list (L.map chgD)) (.lst (SqL.of upd_same) (TnAll.dp (TnAll.keep (TK.of_same s7A) hC7))) (.lst (SqL.of (s7A _ _ (s7 _ _ hl))) (TnAll.dp (TnAll.keep (TK.of_same s7A) hC7))) (by simp only [PyData.canLay0, layL]) (by simp only [PyData.depth]; omega) ⟨_, rfl, if_false_of rfl ?_⟩⟩
  generalize upd H9 l9 (.lst cs) = HA at s7A s8A
  clear z9 hx
  -- the program stays
  have hD7 := Tn.same s7 hD6
  refine ⟨_, rfl, _, rfl, .ref da, p, rfl, Tn.same s7A hD7, Ok60_of ok (by decide), many_none ok (by decide), fun y HB sB nB hY => ?_⟩
  have s7B := s7A.trans sB
  have P7 := hP6.same s7
  have PB := P7.same s7B
  have ee : PyData.eqv p.data p.data = true := SeqAt.eqv_refl _ (Ok_data ok).1
  obtain ⟨dx1, _, _, _, _, ⟨_, _, ea1, _⟩, _⟩ := PB.ex
  obtain ⟨dx2, _, _, _, _, ⟨_, _, ea2, _⟩, _⟩ := hY.ex
  refine ⟨pa, y, dx1, dx2, _, _, rfl, rfl, ea1, ea2, pa, y, p, p, 16, 16, rfl, PB, hY, ok, ok, fun HC sC => ⟨true, by rw [ee], true, rfl, _, rfl, if_false_of rfl ?_⟩⟩
  have s7C := s7B.trans sC
  clear ea1 ea2 hY PB
  -- the changed program is the due one
  refine ⟨fun σ' H' => σ' = [some (V.ref a), some (.ref st), some (.int (n : Nat)), some (.int b), some (.ref da), some (.ref pa), some (.ref l), some du, some (.ref g), none, none, none, none, none, none] ∧ Same H7 H', ?_, ?_⟩
  · have hduC := Tn.same s7C hdu
    have gC := g8.same ((s8A.trans sB).trans sC)
    cases em : manyOf (Chd p L) with
    | some c =>
      obtain ⟨e, i⟩ := c
      have ed : dueD (Chd p L) = .tuple [.str "many", .tuple [.str (kdW e), .int (i : Nat)]] := by unfold dueD; rw [em]
      rw [ed] at hduC
      obtain ⟨d, es, rfl, hS, hE⟩ := Tn.tup_inv hduC
      obtain ⟨x2, rfl⟩ : ∃ x2, es = [.str "many", x2] := by
        cases hE with
        | cons a1 a2 =>
          cases a1
          cases a2 with
          | cons a3 a4 => cases a4; exact ⟨_, rfl⟩
      refine ⟨_, rfl, d, _, 0, .str "many", rfl, rfl, hS, atI_nat (j := 0) rfl, rfl, _, rfl, if_false_of rfl ?_⟩
      exact ⟨rfl, s7C⟩
    | none =>
      have ed : dueD (Chd p L) = .tuple [.str "made", (Chd p L).data] := by unfold dueD; rw [em]
      rw [ed] at hduC
      obtain ⟨d, es, rfl, hS, hE⟩ := Tn.tup_inv hduC
      obtain ⟨x2, rfl, hX2⟩ : ∃ x2, es = [.str "made", x2] ∧ Tn K HC x2 (Chd p L).data := by
        cases hE with
        | cons a1 a2 =>
          cases a1
          cases a2 with
          | cons a3 a4 => cases a4; exact ⟨_, rfl, a3⟩
      refine ⟨_, rfl, d, _, 0, .str "made", rfl, rfl, hS, atI_nat (j := 0) rfl, rfl, _, rfl, if_true_of rfl ?_⟩
      refine ⟨_, rfl, _, rfl, pa, g, cs, p, L, rfl, gC, em, fun x3 H3' s3' n3' hP3 => ?_⟩
      refine ⟨_, rfl, d, _, 1, x2, rfl, rfl, SqT.same s3' hS, atI_nat (j := 1) rfl, x2, Chd p L, rfl, Tn.same s3' hX2, ok2, em, fun x4 H4' s4' n4' hP4 => ?_⟩
      have P3 := hP3.same s4'
      have e3 : PyData.eqv (Chd p L).data (Chd p L).data = true := SeqAt.eqv_refl _ (Ok_data ok2).1
      obtain ⟨dx3, _, _, _, _, ⟨_, _, ea3, _⟩, _⟩ := P3.ex
      obtain ⟨dx4, _, _, _, _, ⟨_, _, ea4, _⟩, _⟩ := hP4.ex
      exact ⟨x3, x4, dx3, dx4, _, _, rfl, rfl, ea3, ea4, x3, x4, Chd p L, Chd p L, 60, 60, rfl, P3, hP4, ok2, ok2, fun H5' s5' => ⟨true, by rw [e3], true, rfl, _, rfl, if_false_of rfl ⟨rfl, ((s7C.trans s3').trans s4').trans s5'⟩⟩⟩
  rintro σ9 HD ⟨rfl, sD⟩
  clear s7A s8A s7B s7C sB sC s79
  have oD := stGo o7 sD
  have lD := sD _ _ (s7 _ _ hl)
  -- a wrong one, at any place
  refine ⟨_, rfl, _, rfl, .ref l, _, rfl, .inl ⟨_, SqL.of lD, rfl⟩, _, _, rfl, rfl, st, sc, _, rfl, by omega, by omega, oD, fun t0 HE tl0 tl1 kE oE _ => ?_⟩
  obtain ⟨t, rfl⟩ : ∃ t : Nat, t0 = (t : Nat) := ⟨t0.toNat, by omega⟩
  have tL : t ≤ L.length := by omega
  have k7E : Keep st H7 HE := Keep.trans (fun b o _ e => sD b o e) kE
  have tkE := TK.of_keep k7E o7.chg
  refine ⟨_, rfl, _, rfl, st, sc, .ref da, p, 16, rfl, oE, Tn.keep tkE hD7, ok, by decide, fun wv wd HF kF oF hwv no => ?_⟩
  have k7F : Keep st H7 HF := k7E.trans kF
  have tkF := TK.of_keep k7F o7.chg
  have lF := k7F _ _ nls (s7 _ _ hl)
  have CF_ := TnAll.keep tkF hC7
  have PF_ := P7.keep k7F nps o7.chg
  have gF : GoodL K HF T.c_Program pa l p cs L := ⟨PF_, ok, .inl lF, CF_, by omega, hch, nd, hst60⟩
  have small : cs.length + 2 ≤ sizeLine := Nat.le_of_lt (small1000 (by omega))
  refine ⟨_, rfl, _, rfl, ?_⟩
  dsimp only [tNoPart]
  refine ⟨_, rfl, (t : Nat), rfl, l, cs, rfl, SqL.of lF, fun p1 hp1 => ?_⟩
  rw [show cutV cs none (some ((t : Nat) : Int)) = cs.take t from cut_to _ t (by omega)]
  have y1 := Same.new hp1 (.lst (cs.take t))
  refine ⟨_, rfl, by show 1 ≤ sizeLine; decide, fun p2 hp2 => ?_⟩
  have y2 := Same.new hp2 (.lst [wv])
  refine ⟨p1, p2, _, _, rfl, rfl, y2 _ _ upd_same, upd_same, by show (cs.take t).length + 1 ≤ sizeLine; rw [List.length_take]; omega, fun p3 hp3 => ?_⟩
  have y3 := Same.new hp3 (.lst (cs.take t ++ [wv]))
  refine ⟨_, rfl, ?_⟩
  dsimp only [tNoPart]
  refine ⟨_, rfl, (t : Nat), rfl, l, cs, rfl, SqL.of (((y1.trans y2).trans y3) _ _ lF), fun p4 hp4 => ?_⟩
  rw [show cutV cs (some ((t : Nat) : Int)) none = cs.drop t from cut_fromN _ t]
  have y4 := Same.new hp4 (.lst (cs.drop t))
  refine ⟨p3, p4, _, _, rfl, rfl, y4 _ _ upd_same, upd_same, by show (cs.take t ++ [wv]).length + (cs.drop t).length ≤ sizeLine; rw [List.length_append, List.length_take, List.length_drop]; show _ + 1 + _ ≤ sizeLine; omega, fun p5 hp5 => ?_⟩
  have y5 := Same.new hp5 (.lst (cs.take t ++ [wv] ++ cs.drop t))
  have y05 := (((y1.trans y2).trans y3).trans y4).trans y5
  have at5 := upd_same (H := upd (upd (upd (upd HF p1 (.lst (cs.take t))) p2 (.lst [wv])) p3 (.lst (cs.take t ++ [wv]))) p4 (.lst (cs.drop t))) (a := p5) (o := .lst (cs.take t ++ [wv] ++ cs.drop t))
  generalize upd (upd (upd (upd (upd HF p1 (.lst (cs.take t))) p2 (.lst [wv])) p3 (.lst (cs.take t ++ [wv]))) p4 (.lst (cs.drop t))) p5 (.lst (cs.take t ++ [wv] ++ cs.drop t)) = HP at y05 at5
  clear y1 y2 y3 y4 y5 hp2 hp3 hp4 hp5
  rw [List.append_assoc, List.singleton_append] at at5
  obtain ⟨I, bad⟩ := bad_in (gF.same y05) tL (Dp.same y05 hwv) no at5
  refine .inr ⟨pa, p5, _, p, I, t, rfl, bad, fun x HG sG hx => ?_⟩
  have sFG := y05.trans sG
  refine ⟨_, rfl, by show 2 ≤ sizeLine; decide, fun p6 hp6 => ?_⟩
  have y6 := Same.new hp6 (.tup [V.str "change", .int (t : Nat)])
  refine ne_same (d := chgTold t) (Dp.same y6 hx) (.tup (SqT.of upd_same) (.cons (.str _) (.cons (.int _) .nil))) (told_lay t).1 (by have := (told_lay t).2; omega) ⟨_, rfl, if_false_of rfl ?_⟩
  have sFI := sFG.trans y6
  generalize upd HG p6 (.tup [V.str "change", .int (t : Nat)]) = HI at sFI
  clear y05 at5 bad hx sFG sG y6 hp6
  have lI := sFI _ _ lF
  have oI := stGo oF sFI
  have gI := gF.same sFI
  have k1I : Keep st H1 HI := (k17.trans k7F).trans fun b o _ e => sFI b o e
  -- no change at all
  refine ⟨_, rfl, .ref l, _, rfl, .inl ⟨_, SqL.of lI, rfl⟩, rfl, _, rfl, ?_⟩
  by_cases hx0 : cs.length = 0
  · exact if_true_of (decide_eq_true (by rw [hx0]; rfl)) (q _ (fresh_same s1 f1 k1I))
  refine if_false_of (decide_eq_false fun z => hx0 (by injection z with z; omega)) ?_
  refine ⟨_, rfl, _, rfl, _, rfl, .ref l, cs.length, rfl, .inl ⟨_, SqL.of lI, rfl⟩, st, sc, (cs.length : Nat), rfl, by omega, by omega, oI, fun j0 HJ j00 j01 kJ oJ _ => ?_⟩
  obtain ⟨j, rfl⟩ : ∃ j : Nat, j0 = (j : Nat) := ⟨j0.toNat, by omega⟩
  have jl : j < cs.length := by omega
  have hx : cs[j]? = some cs[j] := List.getElem?_eq_getElem jl
  obtain ⟨ac, hac⟩ : ∃ ac, L[j]? = some ac := ⟨_, List.getElem?_eq_getElem (by omega)⟩
  have tkJ := TK.of_keep kJ oI.chg
  have CJ := TnAll.keep tkJ gI.tn
  have lJ := kJ _ _ nls lI
  obtain ⟨aD, had, hav⟩ := TnAll.get CJ hx
  rw [List.getElem?_map, hac] at had
  obtain rfl := Option.some.inj had
  generalize cs[j] = av at hx hav
  refine ⟨l, _, (j : Nat), av, rfl, rfl, SqL.of lJ, atI_nat hx, ?_⟩
  have gJ : GoodL K HJ T.c_Program pa l p cs L := ⟨gI.prog.keep kJ nps oI.chg, ok, .inl lJ, CJ, by omega, hch, nd, hst60⟩
  have k1J : Keep st H1 HJ := k1I.trans kJ
  show tSeq _ _ _ [some (V.ref a), some (.ref st), some (.int (n : Nat)), some (.int b), some (.ref da), some (.ref pa), some (.ref l), some du, some (.ref g), some (.int (t : Nat)), some wv, some av, none, none, none] _
  refine ⟨_, rfl, ?_⟩
  dsimp only [tNoPart]
  refine ⟨_, rfl, (t : Nat), rfl, l, cs, rfl, SqL.of lJ, fun p1 hp1 => ?_⟩
  rw [show cutV cs none (some ((t : Nat) : Int)) = cs.take t from cut_to _ t (by omega)]
  have y1 := Same.new hp1 (.lst (cs.take t))
  refine ⟨_, rfl, by show 1 ≤ sizeLine; decide, fun p2 hp2 => ?_⟩
  have y2 := Same.new hp2 (.lst [av])
  refine ⟨p1, p2, _, _, rfl, rfl, y2 _ _ upd_same, upd_same, by show (cs.take t).length + 1 ≤ sizeLine; rw [List.length_take]; omega, fun p3 hp3 => ?_⟩
  have y3 := Same.new hp3 (.lst (cs.take t ++ [av]))
  refine ⟨_, rfl, ?_⟩
  dsimp only [tNoPart]
  refine ⟨_, rfl, (t : Nat), rfl, l, cs, rfl, SqL.of (((y1.trans y2).trans y3) _ _ lJ), fun p4 hp4 => ?_⟩
  rw [show cutV cs (some ((t : Nat) : Int)) none = cs.drop t from cut_fromN _ t]
  have y4 := Same.new hp4 (.lst (cs.drop t))
  refine ⟨p3, p4, _, _, rfl, rfl, y4 _ _ upd_same, upd_same, by show (cs.take t ++ [av]).length + (cs.drop t).length ≤ sizeLine; rw [List.length_append, List.length_take, List.length_drop]; show _ + 1 + _ ≤ sizeLine; omega, fun p5 hp5 => ?_⟩
  have y5 := Same.new hp5 (.lst (cs.take t ++ [av] ++ cs.drop t))
  have y05 := (((y1.trans y2).trans y3).trans y4).trans y5
  have at5 := upd_same (H := upd (upd (upd (upd HJ p1 (.lst (cs.take t))) p2 (.lst [av])) p3 (.lst (cs.take t ++ [av]))) p4 (.lst (cs.drop t))) (a := p5) (o := .lst (cs.take t ++ [av] ++ cs.drop t))
  generalize upd (upd (upd (upd (upd HJ p1 (.lst (cs.take t))) p2 (.lst [av])) p3 (.lst (cs.take t ++ [av]))) p4 (.lst (cs.drop t))) p5 (.lst (cs.take t ++ [av] ++ cs.drop t)) = HP at y05 at5
  clear y1 y2 y3 y4 y5 hp2 hp3 hp4 hp5
  rw [List.append_assoc, List.singleton_append] at at5
  obtain ⟨I2, bad2⟩ := bad_again (gJ.same y05) tL hac (Tn.dp (Tn.same y05 hav)) at5
  have a12 := again_len hac tL
  show tSeq _ _ _ [some (V.ref a), some (.ref st), some (.int (n : Nat)), some (.int b), some (.ref da), some (.ref pa), some (.ref l), some du, some (.ref g), some (.int (t : Nat)), some wv, some av, some (.ref p5), none, none] _
  have hC5 : DpAll K HP (cs.take t ++ av :: cs.drop t) ((L.take t ++ ac :: L.drop t).map chgD) := by
    rw [put_map]
    have hC := TnAll.dp (gJ.same y05).tn
    exact DpAll.append (dp_tk t hC) (.cons (Tn.dp (Tn.same y05 hav)) (dp_dr t hC))
  have avP := Tn.dp (Tn.same y05 hav)
  have nL : (cs.take t ++ av :: cs.drop t).length = L.length + 1 := by rw [put_len, cl]
  refine ⟨_, rfl, .ref p5, _, rfl, .inl ⟨_, SqL.of at5, rfl⟩, (((cs.take t ++ av :: cs.drop t).length : Nat) : Int), rfl, by omega, by omega, fun D hD => fiS_range (n := (((cs.take t ++ av :: cs.drop t).length : Nat) : Int).toNat) (fun k => decide (k = again1 j t) || decide (k = again2 j t)) (fun k => .int (k : Nat)) (by rw [Int.toNat_natCast]; omega) hD ?_ ?_⟩
  · rintro k H' hk hs Yes No yes no
    rw [Int.toNat_natCast] at hk
    refine ⟨rfl, ?_⟩
    rw [show (0 : Int) + (k : Nat) = (k : Nat) from Int.zero_add _]
    have hxk : (cs.take t ++ av :: cs.drop t)[k]? = some (cs.take t ++ av :: cs.drop t)[k] := List.getElem?_eq_getElem hk
    obtain ⟨kd, hkd, hkv⟩ := DpAll.get hC5 hxk
    rw [List.getElem?_map] at hkd
    obtain ⟨ck, hck, rfl⟩ := Option.map_eq_some_iff.mp hkd
    generalize (cs.take t ++ av :: cs.drop t)[k] = xk at hxk hkv
    have et : decide (ck = ac) = (decide (k = again1 j t) || decide (k = again2 j t)) := by
      rw [Bool.eq_iff_iff, decide_eq_true_eq, Bool.or_eq_true, decide_eq_true_eq, decide_eq_true_eq, ← again_at nd hac tL k, hck]
      exact ⟨fun e => by rw [e], fun e => Option.some.inj e⟩
    refine ⟨_, rfl, _, rfl, p5, _, (k : Nat), xk, rfl, rfl, SqL.of (hs _ _ at5), atI_nat hxk, _, rfl, chgD ck, chgD ac, Dp.same hs hkv, Dp.same hs avP, chg_shaped _, chg_shaped _, _, rfl, ?_⟩
    rw [chg_eqv, et]
    refine if_known (fun h => ?_) (fun h => ?_)
    · exact ⟨_, rfl, yes h _ (Same.refl _)⟩
    · exact no h _ (Same.refl _)
  rintro HK sK hK
  rw [Int.toNat_natCast, nL, two_range _ _ a12.1, if_pos (by omega), if_pos a12.2] at hK
  refine ⟨_, rfl, _, rfl, .inr ⟨pa, p5, _, p, I2, again2 j t, rfl, bad2.same sK, fun x HL sL hx => ?_⟩⟩
  refine ⟨_, rfl, D, _, 1, .int (again2 j t : Nat), rfl, rfl, SqL.of (sL _ _ hK), atI_nat (j := 1) rfl, by show 2 ≤ sizeLine; decide, fun p6 hp6 => ?_⟩
  have y6 := Same.new hp6 (.tup [V.str "change", .int (again2 j t : Nat)])
  refine eq_same (d := chgTold (again2 j t)) (Dp.same y6 hx) (.tup (SqT.of upd_same) (.cons (.str _) (.cons (.int _) .nil))) (told_lay _).1 (by have := (told_lay (again2 j t)).2; omega) ?_
  exact q _ (fresh_same s1 f1 (k1J.trans fun b o _ e => y6 _ _ (sL _ _ (sK _ _ (y05 b o e)))))
end
end K77
namespace K77
open PySem PySem.Spec PyProof.Rows L2 Td
def spLaw (K : PySem.W.Frag) : Sp := fun vs H Q _ => ∃ (a : Addr) (ns : List Int), vs = [.ref a] ∧ SqL K H a (ns.map V.int) ∧ ns.length ≤ 63 ∧ ∀ H', Q (.bl true) H'
theorem way_ok {p : PP} {a : Way} {r : Td.Row} {q0 : Str × List Td.Row} (h1 : (bodiesOf p a.e)[a.i]? = some q0) (h2 : rowAt q0.2 a.st = some r) (z : Str) :
    chgOk p (some (z, some (a.e, ((a.i : Nat) : Int), a.st))) = (isRdO (some r) && (decide (z = "early") || (decide (z = "peek") && a.e))) := by
  have er : rowP p (some (a.e, ((a.i : Nat) : Int), a.st)) = some r := by
    show ((getI (bodiesOf p a.e) ((a.i : Nat) : Int)).bind fun q => rowAt q.2 a.st) = _
    rw [getI_nat, h1]
    exact h2
  show (isRdO (rowP p (some (a.e, ((a.i : Nat) : Int), a.st))) && _) = _
  rw [er]
  rfl
section
variable {P : Program} {w : World} {K : PySem.W.Frag} {mg : Str → Option Value} {base : Heap}
theorem ok_second_part (T : Tops w K mg)
    (G__law_state : FnOk P w K mg base CX0 1 T.a__law_state T.d__law_state ["_law_script"] (spState K))
    (G__law_parts : FnOk P w K mg base CX0 11 T.a__law_parts T.d__law_parts ["_law_state_here", "_law_sizes", "_law_peeks", "_law_writes"] (spParts K))
    (G__law_program : FnOk P w K mg base CX0 12 T.a__law_program T.d__law_program ["_law_parts_here"] (spMadeM K T.c_Program))
    (G__law_all_paths : FnOk P w K mg base CX0 5 T.a__law_all_paths T.d__law_all_paths ["_law_parts_here"] (spPrsAll K))
    (G_is_change : FnOk P w K mg base CX0 6 T.a_is_change T.d_is_change ["program", "value"] (spIsChD K T.c_Program))
    (G__law_no_change : FnOk P w K mg base CX0 6 T.a__law_no_change T.d__law_no_change ["_law_state_here", "_law_parts_here"] (spNoChg K)) :
    FnOk P w K mg base CX0 15 T.a__law_second_part T.d__law_second_part ["_law_script"] (spPart K) := by
  refine T.F__law_second_part.ok sc_law_second_part (fun vs H Q E h => ?_) (fun cdv A outer s H vs Q E hr h => ?_)
  · obtain ⟨a, ns, rfl, _⟩ := h
    rfl
  obtain ⟨a, ns, rfl, hN, hlen, q⟩ := h
  refine ⟨_, (pss_cons (ps_set (i := 1) sc_law_second_part.nd rfl (Or.inl rfl) (pe_call G__law_state (hr.mono (by omega)) rfl T.m__law_state T.F__law_state.kp T.b__law_state .nil pass0 (pa_cons (pv 0) pa_nil)))
    (pss_cons (ps_set (i := 2) sc_law_second_part.nd rfl (Or.inl rfl) (pe_call G__law_parts (hr.mono (by omega)) rfl T.m__law_parts T.F__law_parts.kp T.b__law_parts .nil pass0 (pa_cons (pv 1) (pa_cons (pe_tup (pa_cons pe_int (pa_cons pe_int (pa_cons pe_int (pa_cons pe_int (pa_cons pe_int pa_nil)))))) (pa_cons pe_bl (pa_cons pe_bl pa_nil))))))
    (pss_cons (ps_set (i := 3) sc_law_second_part.nd rfl (Or.inl rfl) (pe_call G__law_program (hr.mono (by omega)) rfl T.m__law_program T.F__law_program.kp T.b__law_program .nil pass0 (pa_cons (pv 2) pa_nil)))
    (pss_cons (ps_for PassesOwn.never rfl (pi_list (pe_call G__law_all_paths (hr.mono (by omega)) rfl T.m__law_all_paths T.F__law_all_paths.kp T.b__law_all_paths .nil pass0 (pa_cons (pv 2) pa_nil))) (pg_name (i := 4) sc_law_second_part.nd rfl (Or.inl rfl)) (pss_cons (ps_set (i := 5) sc_law_second_part.nd rfl (Or.inl rfl) (pe_cmpR op_eq (pe_ix ix_tup (pe_ix ix_tup (pv 4) pe_int (fun _ _ => rfl)) pe_int (fun _ _ => rfl)) pe_str (nomark _)))
    (pss_cons (ps_set (i := 6) sc_law_second_part.nd rfl (Or.inl rfl) (pe_call G_is_change (hr.mono (by omega)) rfl T.m_is_change T.F_is_change.kp T.b_is_change .nil pass0 (pa_cons (pv 3) (pa_cons (pe_tup (pa_cons pe_str (pa_cons (pe_ix ix_tup (pv 4) pe_int (fun _ _ => rfl)) pa_nil))) pa_nil))))
    (pss_cons (ps_if (PW.pt (pw_or (pt_not (pt_val (pe_callB call_isi rfl T.z_isinstance (by decide +kernel) (pa_cons (pv 6) (pa_cons (pe_bltn (v := .ty "bool") rfl T.z_bool (by decide +kernel) rfl) pa_nil))))) (pw_or1 (pt_cmpR op_ne (pv 6) (pv 5) (nomark _))))) (pss_one (ps_ret pe_bl)) pss_nil)
    (pss_cons (ps_set (i := 6) sc_law_second_part.nd rfl (Or.inl rfl) (pe_call G_is_change (hr.mono (by omega)) rfl T.m_is_change T.F_is_change.kp T.b_is_change .nil pass0 (pa_cons (pv 3) (pa_cons (pe_tup (pa_cons pe_str (pa_cons (pe_ix ix_tup (pv 4) pe_int (fun _ _ => rfl)) pa_nil))) pa_nil))))
    (pss_one (ps_if (PW.pt (pw_or (pt_not (pt_val (pe_callB call_isi rfl T.z_isinstance (by decide +kernel) (pa_cons (pv 6) (pa_cons (pe_bltn (v := .ty "bool") rfl T.z_bool (by decide +kernel) rfl) pa_nil))))) (pw_or1 (pt_cmpR op_ne (pv 6) (pe_and (pv 5) (pe_one (pe_cmpR op_eq (pe_ix ix_tup (pe_ix ix_tup (pv 4) pe_int (fun _ _ => rfl)) pe_int (fun _ _ => rfl)) pe_str (nomark _)))) (nomark _))))) (pss_one (ps_ret pe_bl)) pss_nil)))))))
    (pss_one (ps_ret (pe_cmpR op_is_bl (pe_call G_is_change (hr.mono (by omega)) rfl T.m_is_change T.F_is_change.kp T.b_is_change .nil pass0 (pa_cons (pv 3) (pa_cons (pe_call G__law_no_change (hr.mono (by omega)) rfl T.m__law_no_change T.F__law_no_change.kp T.b__law_no_change .nil pass0 (pa_cons (pv 1) (pa_cons (pv 2) pa_nil))) pa_nil))) pe_bl (nomark _)))))))), ?_⟩
  refine ⟨_, rfl, a, ns, rfl, hN, hlen, fun st sc H1 s1 f1 f2 o1 => ?_⟩
  refine ⟨_, rfl, by show 5 ≤ sizeLine; decide, fun z hz => ?_⟩
  have w2 := Same.new hz (.tup [V.int 2, .int 2, .int 3, .int 3, .int 12])
  refine ⟨st, sc, z, 2, 2, 3, 3, 12, true, true, rfl, stGo o1 w2, SqT.of upd_same, (o1.ne hz).1, by decide, by decide, by decide, by decide, by decide, by decide, by decide, by decide, by decide, by decide, fun v p H3 k3 o3 ok0 hsrc hX => ?_⟩
  have ok : p.Ok 13 := ok0
  clear ok0
  have hD : Tn K H3 v p.data := DataX.tn hX
  have k13 : Keep st H1 H3 := Keep.trans (fun b o _ e => w2 b o e) k3
  refine ⟨_, rfl, v, p, rfl, hD, Ok60_of ok (by decide), many_none ok (by decide), fun pa H4 s4 npa hP => ?_⟩
  have o4 := stGo o3 s4
  have nps : pa ≠ st := (o3.ne npa).1
  have hD4 := Tn.same s4 hD
  refine ⟨_, rfl, v, p, 13, rfl, hD4, ok, by decide, fun l xs H5 s5 nl hl hT => ?_⟩
  have P5 := hP.same s5
  refine ⟨l, rfl, ⟨_, SqL.of hl⟩, for_list (K := K) (a := l) (xs := xs)
    (fun k σ H' => ∃ (v4 v5 v6 : Option V), σ = [some (.ref a), some (.ref st), some v, some (.ref pa), v4, v5, v6] ∧ Same H5 H')
    ⟨none, none, none, rfl, Same.refl _⟩ (fun k σ H' _ ⟨_, _, _, _, hs⟩ => SqL.of (hs _ _ hl)) ?_ ?_⟩
  · rintro k x σ H6 hx ⟨v4, v5, v6, rfl, s6⟩
    obtain ⟨d, hd1, hd2⟩ := TnAll.get hT hx
    rw [List.getElem?_map] at hd1
    obtain ⟨c, hc, rfl⟩ := Option.map_eq_some_iff.mp hd1
    obtain ⟨q0, h1, h2, h3⟩ := prsAll_at ok (List.mem_of_getElem? hc)
    obtain ⟨pr, b, xr, rfl, hPr, hB, hR⟩ := pr_tn hd2
    obtain ⟨aw, r⟩ := c
    dsimp only at h1 h2 h3 hB hR
    have hne := rowAt_ne h2
    have hst : aw.st.length ≤ 60 := by omega
    obtain ⟨ra, zs, rfl, hRa, hz0⟩ := row_at (Tn.dp (Tn.same s6 hR))
    have hPr6 := SqT.same s6 hPr
    have hB6 := SqT.same s6 hB
    have P6 := P5.same s6
    have cE := way_ok h1 h2 "early"
    have cP := way_ok h1 h2 "peek"
    rw [decide_eq_true (rfl : ("early" : Str) = "early"), Bool.true_or, Bool.and_true] at cE
    rw [decide_eq_false (by decide : ¬ ("peek" : Str) = "early"), decide_eq_true (rfl : ("peek" : Str) = "peek"), Bool.false_or, Bool.true_and] at cP
    refine ⟨_, rfl, pr, _, 1, .ref ra, rfl, rfl, hPr6, atI_nat (j := 1) rfl, ra, _, 0, _, rfl, rfl, hRa, atI_nat (j := 0) hz0, rfl, ?_⟩
    rw [tag_read]
    generalize isRdO (some r) = rd at cE cP
    refine ⟨_, rfl, _, rfl, pr, _, 0, .ref b, rfl, rfl, hPr6, atI_nat (j := 0) rfl, by show 2 ≤ sizeLine; decide, fun t1 ht1 => ?_⟩
    have z1 := Same.new ht1 (.tup [V.str "early", .ref b])
    refine ⟨pa, .ref t1, _, p, 13, some ("early", some (aw.e, ((aw.i : Nat) : Int), aw.st)), rfl, P6.same z1, ok, by decide, .tup (SqT.of upd_same) (.cons (.str _) (.cons (Tn.dp (Way.tn (SqT.same z1 hB6))) .nil)), CF.two (way_pf hne hst), fun H7 s7 => ?_⟩
    rw [cE]
    have s67 := z1.trans s7
    refine ⟨_, rfl, .bl rd, .ty "bool", .type "bool", .type "bool", true, rfl, .ty _, .base (.bl rd), kit_ty (by decide +kernel), true, rfl, if_false_of rfl ?_⟩
    refine ⟨_, rfl, _, rfl, rfl, _, rfl, if_false_of (by rw [decide_eq_true (rfl : V.bl rd = V.bl rd)]; rfl) ?_⟩
    have hPr7 := SqT.same s67 hPr6
    have hB7 := SqT.same s67 hB6
    refine ⟨_, rfl, _, rfl, pr, _, 0, .ref b, rfl, rfl, hPr7, atI_nat (j := 0) rfl, by show 2 ≤ sizeLine; decide, fun t2 ht2 => ?_⟩
    have z2 := Same.new ht2 (.tup [V.str "peek", .ref b])
    refine ⟨pa, .ref t2, _, p, 13, some ("peek", some (aw.e, ((aw.i : Nat) : Int), aw.st)), rfl, (P6.same s67).same z2, ok, by decide, .tup (SqT.of upd_same) (.cons (.str _) (.cons (Tn.dp (Way.tn (SqT.same z2 hB7))) .nil)), CF.two (way_pf hne hst), fun H8 s8 => ?_⟩
    rw [cP]
    have s78 := z2.trans s8
    have s58 := (s6.trans s67).trans s78
    refine ⟨_, rfl, .bl (rd && aw.e), .ty "bool", .type "bool", .type "bool", true, rfl, .ty _, .base (.bl _), kit_ty (by decide +kernel), true, rfl, if_false_of rfl ?_⟩
    cases rd with
    | false =>
      exact ⟨_, rfl, _, rfl, _, rfl, if_false_of rfl ⟨rfl, _, rfl, if_false_of rfl ⟨_, _, _, rfl, s58⟩⟩⟩
    | true =>
      have hPr8 := SqT.same s78 hPr7
      have hB8 := SqT.same s78 hB7
      refine ⟨_, rfl, _, rfl, _, rfl, if_true_of rfl ?_⟩
      refine ⟨_, rfl, pr, _, 0, .ref b, rfl, rfl, hPr8, atI_nat (j := 0) rfl, b, _, 0, .str (kdW aw.e), rfl, rfl, hB8, atI_nat (j := 0) rfl, rfl, ?_⟩
      have ek : decide (V.str (kdW aw.e) = V.str "effects") = aw.e := by cases aw.e <;> decide +kernel
      rw [ek]
      refine ⟨rfl, _, rfl, if_false_of (by rw [Bool.true_and, decide_eq_true (rfl : V.bl aw.e = V.bl aw.e)]; rfl) ⟨_, _, _, rfl, s58⟩⟩
  rintro σ H6 ⟨v4, v5, v6, rfl, s6⟩
  have s36 : Same H3 H6 := (s4.trans s5).trans s6
  refine ⟨_, rfl, _, rfl, _, rfl, st, sc, v, p, 13, rfl, stGo o3 s36, Tn.same s36 hD, ok, by decide, fun wv wd H7 k7 o7 hwv no => ?_⟩
  obtain ⟨c, h1, h2, _, _⟩ := no
  refine ⟨pa, wv, wd, p, 13, c, rfl, ((P5.same s6).keep k7 nps (stGo o3 s36).chg), ok, by decide, hwv, h1, fun H8 s8 => ?_⟩
  rw [h2]
  refine ⟨false, false, rfl, rfl, ?_⟩
  exact q _ (fresh_same s1 f1 (((k13.trans fun b o _ e => s36 b o e).trans k7).trans fun b o _ e => s8 b o e))
theorem ok_law (T : Tops w K mg)
    (G__law_first_part : FnOk P w K mg base CX0 15 T.a__law_first_part T.d__law_first_part ["_law_script"] (spPart K))
    (G__law_second_part : FnOk P w K mg base CX0 15 T.a__law_second_part T.d__law_second_part ["_law_script"] (spPart K)) :
    FnOk P w K mg base CX0 16 T.a_law T.d_law ["_law_script"] (spLaw K) := by
  refine T.F_law.ok sc_law (fun vs H Q E h => ?_) (fun cdv A outer s H vs Q E hr h => ?_)
  · obtain ⟨a, ns, rfl, _⟩ := h
    rfl
  obtain ⟨a, ns, rfl, hN, hlen, q⟩ := h
  refine ⟨_, (pss_one (ps_ret (pe_and (pe_call G__law_first_part (hr.mono (by omega)) rfl T.m__law_first_part T.F__law_first_part.kp T.b__law_first_part .nil pass0 (pa_cons (pv 0) pa_nil)) (pe_one (pe_call G__law_second_part (hr.mono (by omega)) rfl T.m__law_second_part T.F__law_second_part.kp T.b__law_second_part .nil pass0 (pa_cons (pv 0) pa_nil)))))), ?_⟩
  exact ⟨_, rfl, a, ns, rfl, hN, hlen, fun H1 s1 => ⟨true, rfl, if_true_of rfl ⟨_, rfl, a, ns, rfl, SqL.same s1 hN, hlen, fun H2 _ => q H2⟩⟩⟩
end
end K77
namespace K77
open PySem PySem.Spec PyProof.Rows L2 Td
theorem law_of {w : World} {K : PySem.W.Frag} {mg : Str → Option Value} {base : Heap} (T : Tops w K mg) : FnOk PySem.Challenge.pw_toldonward_k77_whole_changes_made w K mg base CX0 16 T.a_law T.d_law ["_law_script"] (spLaw K) := by
  have draw := ok_draw (P := PySem.Challenge.pw_toldonward_k77_whole_changes_made) (base := base) T
  have nms := ok_names (P := PySem.Challenge.pw_toldonward_k77_whole_changes_made) (base := base) T draw
  have row := ok_row (P := PySem.Challenge.pw_toldonward_k77_whole_changes_made) (base := base) T draw
  have rows := ok_rows T draw row (ok_many T 5) 5
  have parts := ok_parts T draw nms rows
  have isn := ok_is_name (P := PySem.Challenge.pw_toldonward_k77_whole_changes_made) (base := base) T
  have arn := ok_are_names T isn
  have nps := ok_named_pairs T isn
  have nof := ok_names_of (P := PySem.Challenge.pw_toldonward_k77_whole_changes_made) (base := base) T
  have fits := fit_held T (ok_read T isn) (ok_put T isn) (ok_slot T isn) (ok_write T isn) (ok_if T isn)
  have fst := ok_first T (ok_valid T fits (ok_check_of T)) 4
  have sta := ok_state (P := PySem.Challenge.pw_toldonward_k77_whole_changes_made) (base := base) T
  have man := ok_many (P := PySem.Challenge.pw_toldonward_k77_whole_changes_made) (base := base) T 5
  have iP := ok_InvalidProgram (P := PySem.Challenge.pw_toldonward_k77_whole_changes_made) (base := base) T
  have bdM := ok_check_bodiesM T (ok_check_bodyM T fst (ok_paths T 4) iP) (ok_scope T)
  have prM := ok_programM T (ok_check_partsM T arn nps nof) bdM nof
  have lpC := ok_law_programM T prM
  have lp : FnOk PySem.Challenge.pw_toldonward_k77_whole_changes_made w K mg base CX0 12 T.a__law_program T.d__law_program ["_law_parts_here"] (spMadeM K T.c_Program) := calm_out lpC fun _ _ _ _ h => h
  have rb := ok_rowb (P := PySem.Challenge.pw_toldonward_k77_whole_changes_made) (base := base) T 4
  have iPa := ok_InvalidPath (P := PySem.Challenge.pw_toldonward_k77_whole_changes_made) (base := base) T
  have rat := ok_row_atB T (ok_formB T (ok_is_integerB T)) rb iPa
  have isc := ok_is_chD T rat
  have crw := ok_ch_rows T (ok_slots T 4) rb (ok_with T 4)
  have iCh := ok_InvalidChange (P := PySem.Challenge.pw_toldonward_k77_whole_changes_made) (base := base) T
  have wL := ok_with_L T (ok_check_chD T isc iCh) (ok_changedML T (ok_ch_bodies T crw) prM)
  have wT := ok_with_T T (ok_check_T T isc) (ok_changedMT T (ok_ch_bodiesT T crw) prM)
  have wA := ok_with_A T wL wT
  have wOk : FnOk PySem.Challenge.pw_toldonward_k77_whole_changes_made w K mg base CX0 13 T.a_with_changes T.d_with_changes ["program", "changes"] (spWithOk K T.c_Program) := calm_out wA fun _ _ _ _ ⟨pa, l, cs, p, L, e, g, mn, q⟩ => .inl ⟨pa, l, cs, p, L, e, g, fun _ => q, fun _ _ z => by rw [mn] at z; cases z⟩
  have prs := ok_prs (P := PySem.Challenge.pw_toldonward_k77_whole_changes_made) (base := base) T 4
  have pra := ok_prs_all T prs
  have noc := ok_no_change T draw pra
  have due := ok_due T (ok_law_chd T prs (ok_spare T prs) (ok_peeked T 4)) man
  have f1 := ok_first_part T sta draw parts lp (ok_law_chs T pra) (ok_chosen T draw) due (ok_law_with T wA) wOk noc (ok_prog_eq T)
  have f2 := ok_second_part T sta parts lp pra isc noc
  exact ok_law T f1 f2
abbrev D_is_integer : He.DefD := ⟨("is_integer", none), "is_integer", "is_integer", defArgs s_is_integer, defBody s_is_integer, defScope s_is_integer, [], []⟩
abbrev D_is_name : He.DefD := ⟨("is_name", none), "is_name", "is_name", defArgs s_is_name, defBody s_is_name, defScope s_is_name, [], []⟩
abbrev D_are_names : He.DefD := ⟨("are_names", none), "are_names", "are_names", defArgs s_are_names, defBody s_are_names, defScope s_are_names, [], []⟩
abbrev D_are_named_pairs : He.DefD := ⟨("are_named_pairs", none), "are_named_pairs", "are_named_pairs", defArgs s_are_named_pairs, defBody s_are_named_pairs, defScope s_are_named_pairs, [], []⟩
abbrev D_InvalidProgram_init : He.DefD := ⟨("InvalidProgram", some "__init__"), "__init__", "InvalidProgram.__init__", defArgs s_InvalidProgram_init, defBody s_InvalidProgram_init, defScope s_InvalidProgram_init, [], []⟩
abbrev D_InvalidPath_init : He.DefD := ⟨("InvalidPath", some "__init__"), "__init__", "InvalidPath.__init__", defArgs s_InvalidPath_init, defBody s_InvalidPath_init, defScope s_InvalidPath_init, [], []⟩
abbrev D_UnknownCell_init : He.DefD := ⟨("UnknownCell", some "__init__"), "__init__", "UnknownCell.__init__", defArgs s_UnknownCell_init, defBody s_UnknownCell_init, defScope s_UnknownCell_init, [], []⟩
abbrev D_InvalidChange_init : He.DefD := ⟨("InvalidChange", some "__init__"), "__init__", "InvalidChange.__init__", defArgs s_InvalidChange_init, defBody s_InvalidChange_init, defScope s_InvalidChange_init, [], []⟩
abbrev D_Scope_init : He.DefD := ⟨("Scope", some "__init__"), "__init__", "Scope.__init__", defArgs s_Scope_init, defBody s_Scope_init, defScope s_Scope_init, [], []⟩
abbrev D_is_read_row : He.DefD := ⟨("is_read_row", none), "is_read_row", "is_read_row", defArgs s_is_read_row, defBody s_is_read_row, defScope s_is_read_row, [], []⟩
abbrev D_is_put_row : He.DefD := ⟨("is_put_row", none), "is_put_row", "is_put_row", defArgs s_is_put_row, defBody s_is_put_row, defScope s_is_put_row, [], []⟩
abbrev D_is_if_row : He.DefD := ⟨("is_if_row", none), "is_if_row", "is_if_row", defArgs s_is_if_row, defBody s_is_if_row, defScope s_is_if_row, [], []⟩
abbrev D_is_slot_row : He.DefD := ⟨("is_slot_row", none), "is_slot_row", "is_slot_row", defArgs s_is_slot_row, defBody s_is_slot_row, defScope s_is_slot_row, [], []⟩
abbrev D_is_write_row : He.DefD := ⟨("is_write_row", none), "is_write_row", "is_write_row", defArgs s_is_write_row, defBody s_is_write_row, defScope s_is_write_row, [], []⟩
abbrev D_check_of : He.DefD := ⟨("check_of", none), "check_of", "check_of", defArgs s_check_of, defBody s_check_of, defScope s_check_of, [], []⟩
abbrev D_is_valid_row : He.DefD := ⟨("is_valid_row", none), "is_valid_row", "is_valid_row", defArgs s_is_valid_row, defBody s_is_valid_row, defScope s_is_valid_row, [], []⟩
abbrev D_first_wrong_path : He.DefD := ⟨("first_wrong_path", none), "first_wrong_path", "first_wrong_path", defArgs s_first_wrong_path, defBody s_first_wrong_path, defScope s_first_wrong_path, [], []⟩
abbrev D_paths_of_rows : He.DefD := ⟨("paths_of_rows", none), "paths_of_rows", "paths_of_rows", defArgs s_paths_of_rows, defBody s_paths_of_rows, defScope s_paths_of_rows, [], []⟩
abbrev D_row_behind : He.DefD := ⟨("row_behind", none), "row_behind", "row_behind", defArgs s_row_behind, defBody s_row_behind, defScope s_row_behind, [], []⟩
abbrev D_rows_with : He.DefD := ⟨("rows_with", none), "rows_with", "rows_with", defArgs s_rows_with, defBody s_rows_with, defScope s_rows_with, [], []⟩
abbrev D_slots_in : He.DefD := ⟨("slots_in", none), "slots_in", "slots_in", defArgs s_slots_in, defBody s_slots_in, defScope s_slots_in, [], []⟩
abbrev D_Program_init : He.DefD := ⟨("Program", some "__init__"), "__init__", "Program.__init__", defArgs s_Program_init, defBody s_Program_init, defScope s_Program_init, [], []⟩
abbrev D_Program_eq : He.DefD := ⟨("Program", some "__eq__"), "__eq__", "Program.__eq__", defArgs s_Program_eq, defBody s_Program_eq, defScope s_Program_eq, [], []⟩
abbrev D_Program_cells : He.DefD := ⟨("Program", some "cells"), "cells", "Program.cells", defArgs s_Program_cells, defBody s_Program_cells, defScope s_Program_cells, [], []⟩
abbrev D_Program_derived_names : He.DefD := ⟨("Program", some "derived_names"), "derived_names", "Program.derived_names", defArgs s_Program_derived_names, defBody s_Program_derived_names, defScope s_Program_derived_names, [], []⟩
abbrev D_Program_effect_names : He.DefD := ⟨("Program", some "effect_names"), "effect_names", "Program.effect_names", defArgs s_Program_effect_names, defBody s_Program_effect_names, defScope s_Program_effect_names, [], []⟩
abbrev D_Program_body : He.DefD := ⟨("Program", some "body"), "body", "Program.body", defArgs s_Program_body, defBody s_Program_body, defScope s_Program_body, [], []⟩
abbrev D_Program_row_paths : He.DefD := ⟨("Program", some "row_paths"), "row_paths", "Program.row_paths", defArgs s_Program_row_paths, defBody s_Program_row_paths, defScope s_Program_row_paths, [], []⟩
abbrev D_Program_row_at : He.DefD := ⟨("Program", some "row_at"), "row_at", "Program.row_at", defArgs s_Program_row_at, defBody s_Program_row_at, defScope s_Program_row_at, [], []⟩
abbrev D_Program_with_row : He.DefD := ⟨("Program", some "with_row"), "with_row", "Program.with_row", defArgs s_Program_with_row, defBody s_Program_with_row, defScope s_Program_with_row, [], []⟩
abbrev D_names_of : He.DefD := ⟨("names_of", none), "names_of", "names_of", defArgs s_names_of, defBody s_names_of, defScope s_names_of, [], []⟩
abbrev D_is_path_form : He.DefD := ⟨("is_path_form", none), "is_path_form", "is_path_form", defArgs s_is_path_form, defBody s_is_path_form, defScope s_is_path_form, [], []⟩
abbrev D_check_parts : He.DefD := ⟨("check_parts", none), "check_parts", "check_parts", defArgs s_check_parts, defBody s_check_parts, defScope s_check_parts, [], []⟩
abbrev D_check_bodies : He.DefD := ⟨("check_bodies", none), "check_bodies", "check_bodies", defArgs s_check_bodies, defBody s_check_bodies, defScope s_check_bodies, [], []⟩
abbrev D_check_body : He.DefD := ⟨("check_body", none), "check_body", "check_body", defArgs s_check_body, defBody s_check_body, defScope s_check_body, [], []⟩
abbrev D_is_change : He.DefD := ⟨("is_change", none), "is_change", "is_change", defArgs s_is_change, defBody s_is_change, defScope s_is_change, [], []⟩
abbrev D_check_changes : He.DefD := ⟨("check_changes", none), "check_changes", "check_changes", defArgs s_check_changes, defBody s_check_changes, defScope s_check_changes, [], []⟩
abbrev D_with_changes : He.DefD := ⟨("with_changes", none), "with_changes", "with_changes", defArgs s_with_changes, defBody s_with_changes, defScope s_with_changes, [], []⟩
abbrev D_changed : He.DefD := ⟨("changed", none), "changed", "changed", defArgs s_changed, defBody s_changed, defScope s_changed, [], []⟩
abbrev D_changed_bodies : He.DefD := ⟨("changed_bodies", none), "changed_bodies", "changed_bodies", defArgs s_changed_bodies, defBody s_changed_bodies, defScope s_changed_bodies, [], []⟩
abbrev D_changed_rows : He.DefD := ⟨("changed_rows", none), "changed_rows", "changed_rows", defArgs s_changed_rows, defBody s_changed_rows, defScope s_changed_rows, [], []⟩
abbrev D_law_state : He.DefD := ⟨("_law_state", none), "_law_state", "_law_state", defArgs s_law_state, defBody s_law_state, defScope s_law_state, [], []⟩
abbrev D_law_draw : He.DefD := ⟨("_law_draw", none), "_law_draw", "_law_draw", defArgs s_law_draw, defBody s_law_draw, defScope s_law_draw, [], []⟩
abbrev D_law_names : He.DefD := ⟨("_law_names", none), "_law_names", "_law_names", defArgs s_law_names, defBody s_law_names, defScope s_law_names, [], []⟩
abbrev D_law_many : He.DefD := ⟨("_law_many", none), "_law_many", "_law_many", defArgs s_law_many, defBody s_law_many, defScope s_law_many, [], []⟩
abbrev D_law_row : He.DefD := ⟨("_law_row", none), "_law_row", "_law_row", defArgs s_law_row, defBody s_law_row, defScope s_law_row, [], []⟩
abbrev D_law_rows : He.DefD := ⟨("_law_rows", none), "_law_rows", "_law_rows", defArgs s_law_rows, defBody s_law_rows, defScope s_law_rows, [], []⟩
abbrev D_law_parts : He.DefD := ⟨("_law_parts", none), "_law_parts", "_law_parts", defArgs s_law_parts, defBody s_law_parts, defScope s_law_parts, [], []⟩
abbrev D_law_program : He.DefD := ⟨("_law_program", none), "_law_program", "_law_program", defArgs s_law_program, defBody s_law_program, defScope s_law_program, [], []⟩
abbrev D_law_chosen : He.DefD := ⟨("_law_chosen", none), "_law_chosen", "_law_chosen", defArgs s_law_chosen, defBody s_law_chosen, defScope s_law_chosen, [], []⟩
abbrev D_law_paths : He.DefD := ⟨("_law_paths", none), "_law_paths", "_law_paths", defArgs s_law_paths, defBody s_law_paths, defScope s_law_paths, [], []⟩
abbrev D_law_all_paths : He.DefD := ⟨("_law_all_paths", none), "_law_all_paths", "_law_all_paths", defArgs s_law_all_paths, defBody s_law_all_paths, defScope s_law_all_paths, [], []⟩
abbrev D_law_changes : He.DefD := ⟨("_law_changes", none), "_law_changes", "_law_changes", defArgs s_law_changes, defBody s_law_changes, defScope s_law_changes, [], []⟩
abbrev D_law_spare : He.DefD := ⟨("_law_spare", none), "_law_spare", "_law_spare", defArgs s_law_spare, defBody s_law_spare, defScope s_law_spare, [], []⟩
abbrev D_law_peeked : He.DefD := ⟨("_law_peeked", none), "_law_peeked", "_law_peeked", defArgs s_law_peeked, defBody s_law_peeked, defScope s_law_peeked, [], []⟩
abbrev D_law_changed : He.DefD := ⟨("_law_changed", none), "_law_changed", "_law_changed", defArgs s_law_changed, defBody s_law_changed, defScope s_law_changed, [], []⟩
abbrev D_law_due : He.DefD := ⟨("_law_due", none), "_law_due", "_law_due", defArgs s_law_due, defBody s_law_due, defScope s_law_due, [], []⟩
abbrev D_law_with : He.DefD := ⟨("_law_with", none), "_law_with", "_law_with", defArgs s_law_with, defBody s_law_with, defScope s_law_with, [], []⟩
abbrev D_law_no_change : He.DefD := ⟨("_law_no_change", none), "_law_no_change", "_law_no_change", defArgs s_law_no_change, defBody s_law_no_change, defScope s_law_no_change, [], []⟩
abbrev D_law_first_part : He.DefD := ⟨("_law_first_part", none), "_law_first_part", "_law_first_part", defArgs s_law_first_part, defBody s_law_first_part, defScope s_law_first_part, [], []⟩
abbrev D_law_second_part : He.DefD := ⟨("_law_second_part", none), "_law_second_part", "_law_second_part", defArgs s_law_second_part, defBody s_law_second_part, defScope s_law_second_part, [], []⟩
abbrev D_law : He.DefD := ⟨("law", none), "law", "law", defArgs s_law, defBody s_law, defScope s_law, [], []⟩
def us : List SupD := []
def fa0 : List He.Fa := [.glo "is_integer", .glo "is_name", .glo "are_names", .glo "are_named_pairs", .glo "is_read_row", .glo "is_put_row", .glo "is_if_row", .glo "is_slot_row", .glo "is_write_row", .glo "check_of", .glo "is_valid_row", .glo "first_wrong_path", .glo "paths_of_rows", .glo "row_behind", .glo "rows_with", .glo "slots_in", .glo "names_of", .glo "is_path_form", .glo "check_parts", .glo "check_bodies", .glo "check_body", .glo "is_change", .glo "check_changes", .glo "with_changes", .glo "changed", .glo "changed_bodies", .glo "changed_rows", .glo "_law_state", .glo "_law_draw", .glo "_law_names"]
def fa1 : List He.Fa := [.glo "_law_many", .glo "_law_row", .glo "_law_rows", .glo "_law_parts", .glo "_law_program", .glo "_law_chosen", .glo "_law_paths", .glo "_law_all_paths", .glo "_law_changes", .glo "_law_spare", .glo "_law_peeked", .glo "_law_changed", .glo "_law_due", .glo "_law_with", .glo "_law_no_change", .glo "_law_first_part", .glo "_law_second_part", .glo "law", .free "isinstance", .free "str", .free "tuple", .free "list", .free "len", .free "all", .free "set", .free "enumerate", .free "range", .free "abs", .free "int", .free "max"]
def fa2 : List He.Fa := [.free "dict", .free "zip", .free "bool", .int "LONGEST_NAME" 8, .int "MOST_ROWS" 16, .int "DEEPEST_IF" 3, .int "LEAST_WORDS" 2, .int "MOST_WORDS" 4, .int "LEAST_SOURCES" 1, .int "MOST_SOURCES" 4, .int "MOST_DERIVED" 6, .int "MOST_EFFECTS" 4, .str "LETTERS" "abcdefghijklmnopqrstuvwxyz", .glo "ToldError", .glo "InvalidProgram", .exm "InvalidProgram" "InvalidProgram" true, .glo "InvalidPath", .exm "InvalidPath" "InvalidPath" true, .exm "InvalidPath" "InvalidProgram" false, .glo "UnknownCell", .glo "InvalidChange", .exm "InvalidChange" "InvalidChange" true, .exm "InvalidChange" "InvalidProgram" false, .exm "InvalidChange" "InvalidPath" false, .glo "Scope", .cls "Scope", .mkr "Scope", .noat "Scope" "kind", .noat "Scope" "words", .noat "Scope" "sources"]
def fa3 : List He.Fa := [.noat "Scope" "readable", .glo "Program", .cls "Program", .mkr "Program", .noat "Program" "words", .noat "Program" "sources", .noat "Program" "derived", .noat "Program" "effects", .noat "Program" "_derived_names", .noat "Program" "_effect_names", .meth "Program" "cells", .meth "Program" "derived_names", .meth "Program" "effect_names", .meth "Program" "body", .meth "Program" "row_paths", .meth "Program" "row_at", .meth "Program" "with_row", .glo "SLOT_PLACES", .glo "DERIVED_FORMS", .glo "EFFECT_FORMS", .exm "InvalidProgram" "InvalidChange" false]
def fa : List He.Fa := fa0 ++ (fa1 ++ (fa2 ++ (fa3)))
def fn0 : List He.DefD := [D_is_integer, D_is_name, D_are_names, D_are_named_pairs, D_InvalidProgram_init, D_InvalidPath_init, D_UnknownCell_init, D_InvalidChange_init, D_Scope_init, D_is_read_row, D_is_put_row, D_is_if_row, D_is_slot_row, D_is_write_row, D_check_of, D_is_valid_row, D_first_wrong_path, D_paths_of_rows, D_row_behind, D_rows_with, D_slots_in, D_Program_init, D_Program_eq, D_Program_cells, D_Program_derived_names, D_Program_effect_names, D_Program_body, D_Program_row_paths, D_Program_row_at, D_Program_with_row]
def fn1 : List He.DefD := [D_names_of, D_is_path_form, D_check_parts, D_check_bodies, D_check_body, D_is_change, D_check_changes, D_with_changes, D_changed, D_changed_bodies, D_changed_rows, D_law_state, D_law_draw, D_law_names, D_law_many, D_law_row, D_law_rows, D_law_parts, D_law_program, D_law_chosen, D_law_paths, D_law_all_paths, D_law_changes, D_law_spare, D_law_peeked, D_law_changed, D_law_due, D_law_with, D_law_no_change, D_law_first_part]
def fn2 : List He.DefD := [D_law_second_part, D_law]
def fn : List He.DefD := fn0 ++ (fn1 ++ (fn2))
def ts : List He.Tab := [(fun K => He.ga K "SLOT_PLACES", ["read", "peek", "put", "if", "give", "write", "say"]), (fun K => He.ga K "DERIVED_FORMS", ["read", "put", "if", "give"]), (fun K => He.ga K "EFFECT_FORMS", ["read", "peek", "put", "if", "write", "say"])]
def vt : List (Str × List (Str × He.Dv)) := [("SLOT_PLACES", [("read", He.Dv.int 2), ("peek", He.Dv.int 2), ("put", He.Dv.int 1), ("if", He.Dv.int 1), ("give", He.Dv.int 1), ("write", He.Dv.int 2), ("say", He.Dv.int 1)]), ("DERIVED_FORMS", [("read", He.Dv.glo "is_read_row"), ("put", He.Dv.glo "is_put_row"), ("if", He.Dv.glo "is_if_row"), ("give", He.Dv.glo "is_slot_row")]), ("EFFECT_FORMS", [("read", He.Dv.glo "is_read_row"), ("peek", He.Dv.glo "is_read_row"), ("put", He.Dv.glo "is_put_row"), ("if", He.Dv.glo "is_if_row"), ("write", He.Dv.glo "is_write_row"), ("say", He.Dv.glo "is_slot_row")])]
def xs : List (Str × Str) := [("InvalidChange", "index"), ("InvalidProgram", "part"), ("InvalidPath", "path")]
def ex (K : PySem.W.Frag) : Bool := (vt.all fun t => He.valsB K (He.ga K t.1) t.2) && ((xs.all fun q => excB K q.1 q.2) && (He.eqO (PySem.W.findIn K (.ref (He.ga K "InvalidProgram")) "path") (some none) && (He.eqO (PySem.W.findIn K (.ref (He.ga K "Program")) "__eq__") (some (some (.ref (He.fAd K ("Program", some "__eq__"))))) && (PySem.W.isFn K (.ref (He.fAd K ("Program", some "__eq__"))) && (He.eqO (PySem.W.findIn K (.ref (He.ga K "Program")) "__ne__") (some (some (.builtin "object.__ne__"))) && (decide (PySem.W.subIn K (.ref (He.ga K "Program")) (.type "object") = some true) && (ownB K (He.ga K "Program"))))))))
theorem fun_of {K : PySem.W.Frag} {x qual : Str} {st : Stmt} {f : Addr} (h : ∃ fd, FunD K x qual (defArgs st) (defBody st) (defScope st) [] [] f fd) : ∃ fd, Fun K x qual st f fd := by
  obtain ⟨fd, F⟩ := h
  obtain ⟨oc, od, dV, kV, doc, pm, an, cdv, ct, osl, e, lk, hcd, hD, hK⟩ := F.ex
  rcases hD with ⟨_, rfl⟩ | ⟨z, _⟩
  · exact ⟨fd, ⟨oc, od, kV, doc, pm, an, cdv, ct, osl, e, lk, hcd⟩, F.kp⟩
  · exact absurd rfl z
theorem val_of {K : PySem.W.Frag} {t : Str × List (Str × He.Dv)} (h : He.valsB K (He.ga K t.1) t.2 = true) (q : Str × He.Dv) (hq : q ∈ t.2) : ∃ u, PySem.W.nsIn K (He.ga K t.1) q.1 = some (some u) ∧ RelV (q.2.v K) u := He.valsB_ok h hq
theorem kdct_of {K : PySem.W.Frag} {w : World} {a : Addr} {es : Array DictEntry} {n : Nat} {x : Str} {v : V} (l : K.lookup a = some ⟨.type "dict", none, .dict es n, #[]⟩) (y : PySem.W.KeysLit w.params es.toList) (h : ∃ u, PySem.W.nsIn K a x = some (some u) ∧ RelV v u) : KDct K w a x v := by
  obtain ⟨u, h1, h2⟩ := h
  exact ⟨es, n, u, l, y, h1, h2⟩
theorem law_binds {K : PySem.W.Frag} {x qual : Str} {st : Stmt} {f : Addr} {fd : FuncData} {ps : List Str} (F : Fun K x qual st f fd)
    (h : ∀ (kV doc pm : Value) (an : Option Addr) (cdv ct : Value) (us : List Value), us.length = ps.length → bindArgs (PySem.W.fnOf x qual (defArgs st) (defBody st) (defScope st) .none kV doc pm an cdv ct) ⟨us, []⟩ = pure (ps.zip us)) (s : Shared) (us : List Value) (hl : us.length = ps.length) : BindsTo s fd ⟨us, []⟩ (ps.zip us) := by
  obtain ⟨oc, od, kV, doc, pm, an, cdv, ct, osl, rfl, lk, hcd⟩ := F.ex
  exact .of_eq (h kV doc pm an cdv ct us hl)
theorem tops {w : World} {K : PySem.W.Frag} {h : Heap} {mg : Str → Option Value} (X : K.In h) (G : h.Ns mainGlobals mg) (c : SaysU fa fn ts us ex w K) : ∃ T : Tops w K mg, ∀ (s : Shared) (u : Value), BindsTo s T.d_law ⟨[u], []⟩ [("_law_script", u)] := by
  obtain ⟨d_is_integer, F_is_integer⟩ := fun_of (x := "is_integer") (qual := "is_integer") (st := s_is_integer) (f := He.fAd K ("is_integer", none)) (c.t.d.def_ 0 (d := D_is_integer) rfl)
  obtain ⟨d_is_name, F_is_name⟩ := fun_of (x := "is_name") (qual := "is_name") (st := s_is_name) (f := He.fAd K ("is_name", none)) (c.t.d.def_ 1 (d := D_is_name) rfl)
  obtain ⟨d_are_names, F_are_names⟩ := fun_of (x := "are_names") (qual := "are_names") (st := s_are_names) (f := He.fAd K ("are_names", none)) (c.t.d.def_ 2 (d := D_are_names) rfl)
  obtain ⟨d_are_named_pairs, F_are_named_pairs⟩ := fun_of (x := "are_named_pairs") (qual := "are_named_pairs") (st := s_are_named_pairs) (f := He.fAd K ("are_named_pairs", none)) (c.t.d.def_ 3 (d := D_are_named_pairs) rfl)
  obtain ⟨d_InvalidProgram_init, F_InvalidProgram_init⟩ := fun_of (x := "__init__") (qual := "InvalidProgram.__init__") (st := s_InvalidProgram_init) (f := He.fAd K ("InvalidProgram", some "__init__")) (c.t.d.def_ 4 (d := D_InvalidProgram_init) rfl)
  obtain ⟨d_InvalidPath_init, F_InvalidPath_init⟩ := fun_of (x := "__init__") (qual := "InvalidPath.__init__") (st := s_InvalidPath_init) (f := He.fAd K ("InvalidPath", some "__init__")) (c.t.d.def_ 5 (d := D_InvalidPath_init) rfl)
  obtain ⟨d_UnknownCell_init, F_UnknownCell_init⟩ := fun_of (x := "__init__") (qual := "UnknownCell.__init__") (st := s_UnknownCell_init) (f := He.fAd K ("UnknownCell", some "__init__")) (c.t.d.def_ 6 (d := D_UnknownCell_init) rfl)
  obtain ⟨d_InvalidChange_init, F_InvalidChange_init⟩ := fun_of (x := "__init__") (qual := "InvalidChange.__init__") (st := s_InvalidChange_init) (f := He.fAd K ("InvalidChange", some "__init__")) (c.t.d.def_ 7 (d := D_InvalidChange_init) rfl)
  obtain ⟨d_Scope_init, F_Scope_init⟩ := fun_of (x := "__init__") (qual := "Scope.__init__") (st := s_Scope_init) (f := He.fAd K ("Scope", some "__init__")) (c.t.d.def_ 8 (d := D_Scope_init) rfl)
  obtain ⟨d_is_read_row, F_is_read_row⟩ := fun_of (x := "is_read_row") (qual := "is_read_row") (st := s_is_read_row) (f := He.fAd K ("is_read_row", none)) (c.t.d.def_ 9 (d := D_is_read_row) rfl)
  obtain ⟨d_is_put_row, F_is_put_row⟩ := fun_of (x := "is_put_row") (qual := "is_put_row") (st := s_is_put_row) (f := He.fAd K ("is_put_row", none)) (c.t.d.def_ 10 (d := D_is_put_row) rfl)
  obtain ⟨d_is_if_row, F_is_if_row⟩ := fun_of (x := "is_if_row") (qual := "is_if_row") (st := s_is_if_row) (f := He.fAd K ("is_if_row", none)) (c.t.d.def_ 11 (d := D_is_if_row) rfl)
  obtain ⟨d_is_slot_row, F_is_slot_row⟩ := fun_of (x := "is_slot_row") (qual := "is_slot_row") (st := s_is_slot_row) (f := He.fAd K ("is_slot_row", none)) (c.t.d.def_ 12 (d := D_is_slot_row) rfl)
  obtain ⟨d_is_write_row, F_is_write_row⟩ := fun_of (x := "is_write_row") (qual := "is_write_row") (st := s_is_write_row) (f := He.fAd K ("is_write_row", none)) (c.t.d.def_ 13 (d := D_is_write_row) rfl)
  obtain ⟨d_check_of, F_check_of⟩ := fun_of (x := "check_of") (qual := "check_of") (st := s_check_of) (f := He.fAd K ("check_of", none)) (c.t.d.def_ 14 (d := D_check_of) rfl)
  obtain ⟨d_is_valid_row, F_is_valid_row⟩ := fun_of (x := "is_valid_row") (qual := "is_valid_row") (st := s_is_valid_row) (f := He.fAd K ("is_valid_row", none)) (c.t.d.def_ 15 (d := D_is_valid_row) rfl)
  obtain ⟨d_first_wrong_path, F_first_wrong_path⟩ := fun_of (x := "first_wrong_path") (qual := "first_wrong_path") (st := s_first_wrong_path) (f := He.fAd K ("first_wrong_path", none)) (c.t.d.def_ 16 (d := D_first_wrong_path) rfl)
  obtain ⟨d_paths_of_rows, F_paths_of_rows⟩ := fun_of (x := "paths_of_rows") (qual := "paths_of_rows") (st := s_paths_of_rows) (f := He.fAd K ("paths_of_rows", none)) (c.t.d.def_ 17 (d := D_paths_of_rows) rfl)
  obtain ⟨d_row_behind, F_row_behind⟩ := fun_of (x := "row_behind") (qual := "row_behind") (st := s_row_behind) (f := He.fAd K ("row_behind", none)) (c.t.d.def_ 18 (d := D_row_behind) rfl)
  obtain ⟨d_rows_with, F_rows_with⟩ := fun_of (x := "rows_with") (qual := "rows_with") (st := s_rows_with) (f := He.fAd K ("rows_with", none)) (c.t.d.def_ 19 (d := D_rows_with) rfl)
  obtain ⟨d_slots_in, F_slots_in⟩ := fun_of (x := "slots_in") (qual := "slots_in") (st := s_slots_in) (f := He.fAd K ("slots_in", none)) (c.t.d.def_ 20 (d := D_slots_in) rfl)
  obtain ⟨d_Program_init, F_Program_init⟩ := fun_of (x := "__init__") (qual := "Program.__init__") (st := s_Program_init) (f := He.fAd K ("Program", some "__init__")) (c.t.d.def_ 21 (d := D_Program_init) rfl)
  obtain ⟨d_Program_eq, F_Program_eq⟩ := fun_of (x := "__eq__") (qual := "Program.__eq__") (st := s_Program_eq) (f := He.fAd K ("Program", some "__eq__")) (c.t.d.def_ 22 (d := D_Program_eq) rfl)
  obtain ⟨d_Program_cells, F_Program_cells⟩ := fun_of (x := "cells") (qual := "Program.cells") (st := s_Program_cells) (f := He.fAd K ("Program", some "cells")) (c.t.d.def_ 23 (d := D_Program_cells) rfl)
  obtain ⟨d_Program_derived_names, F_Program_derived_names⟩ := fun_of (x := "derived_names") (qual := "Program.derived_names") (st := s_Program_derived_names) (f := He.fAd K ("Program", some "derived_names")) (c.t.d.def_ 24 (d := D_Program_derived_names) rfl)
  obtain ⟨d_Program_effect_names, F_Program_effect_names⟩ := fun_of (x := "effect_names") (qual := "Program.effect_names") (st := s_Program_effect_names) (f := He.fAd K ("Program", some "effect_names")) (c.t.d.def_ 25 (d := D_Program_effect_names) rfl)
  obtain ⟨d_Program_body, F_Program_body⟩ := fun_of (x := "body") (qual := "Program.body") (st := s_Program_body) (f := He.fAd K ("Program", some "body")) (c.t.d.def_ 26 (d := D_Program_body) rfl)
  obtain ⟨d_Program_row_paths, F_Program_row_paths⟩ := fun_of (x := "row_paths") (qual := "Program.row_paths") (st := s_Program_row_paths) (f := He.fAd K ("Program", some "row_paths")) (c.t.d.def_ 27 (d := D_Program_row_paths) rfl)
  obtain ⟨d_Program_row_at, F_Program_row_at⟩ := fun_of (x := "row_at") (qual := "Program.row_at") (st := s_Program_row_at) (f := He.fAd K ("Program", some "row_at")) (c.t.d.def_ 28 (d := D_Program_row_at) rfl)
  obtain ⟨d_Program_with_row, F_Program_with_row⟩ := fun_of (x := "with_row") (qual := "Program.with_row") (st := s_Program_with_row) (f := He.fAd K ("Program", some "with_row")) (c.t.d.def_ 29 (d := D_Program_with_row) rfl)
  obtain ⟨d_names_of, F_names_of⟩ := fun_of (x := "names_of") (qual := "names_of") (st := s_names_of) (f := He.fAd K ("names_of", none)) (c.t.d.def_ 30 (d := D_names_of) rfl)
  obtain ⟨d_is_path_form, F_is_path_form⟩ := fun_of (x := "is_path_form") (qual := "is_path_form") (st := s_is_path_form) (f := He.fAd K ("is_path_form", none)) (c.t.d.def_ 31 (d := D_is_path_form) rfl)
  obtain ⟨d_check_parts, F_check_parts⟩ := fun_of (x := "check_parts") (qual := "check_parts") (st := s_check_parts) (f := He.fAd K ("check_parts", none)) (c.t.d.def_ 32 (d := D_check_parts) rfl)
  obtain ⟨d_check_bodies, F_check_bodies⟩ := fun_of (x := "check_bodies") (qual := "check_bodies") (st := s_check_bodies) (f := He.fAd K ("check_bodies", none)) (c.t.d.def_ 33 (d := D_check_bodies) rfl)
  obtain ⟨d_check_body, F_check_body⟩ := fun_of (x := "check_body") (qual := "check_body") (st := s_check_body) (f := He.fAd K ("check_body", none)) (c.t.d.def_ 34 (d := D_check_body) rfl)
  obtain ⟨d_is_change, F_is_change⟩ := fun_of (x := "is_change") (qual := "is_change") (st := s_is_change) (f := He.fAd K ("is_change", none)) (c.t.d.def_ 35 (d := D_is_change) rfl)
  obtain ⟨d_check_changes, F_check_changes⟩ := fun_of (x := "check_changes") (qual := "check_changes") (st := s_check_changes) (f := He.fAd K ("check_changes", none)) (c.t.d.def_ 36 (d := D_check_changes) rfl)
  obtain ⟨d_with_changes, F_with_changes⟩ := fun_of (x := "with_changes") (qual := "with_changes") (st := s_with_changes) (f := He.fAd K ("with_changes", none)) (c.t.d.def_ 37 (d := D_with_changes) rfl)
  obtain ⟨d_changed, F_changed⟩ := fun_of (x := "changed") (qual := "changed") (st := s_changed) (f := He.fAd K ("changed", none)) (c.t.d.def_ 38 (d := D_changed) rfl)
  obtain ⟨d_changed_bodies, F_changed_bodies⟩ := fun_of (x := "changed_bodies") (qual := "changed_bodies") (st := s_changed_bodies) (f := He.fAd K ("changed_bodies", none)) (c.t.d.def_ 39 (d := D_changed_bodies) rfl)
  obtain ⟨d_changed_rows, F_changed_rows⟩ := fun_of (x := "changed_rows") (qual := "changed_rows") (st := s_changed_rows) (f := He.fAd K ("changed_rows", none)) (c.t.d.def_ 40 (d := D_changed_rows) rfl)
  obtain ⟨d_law_state, F_law_state⟩ := fun_of (x := "_law_state") (qual := "_law_state") (st := s_law_state) (f := He.fAd K ("_law_state", none)) (c.t.d.def_ 41 (d := D_law_state) rfl)
  obtain ⟨d_law_draw, F_law_draw⟩ := fun_of (x := "_law_draw") (qual := "_law_draw") (st := s_law_draw) (f := He.fAd K ("_law_draw", none)) (c.t.d.def_ 42 (d := D_law_draw) rfl)
  obtain ⟨d_law_names, F_law_names⟩ := fun_of (x := "_law_names") (qual := "_law_names") (st := s_law_names) (f := He.fAd K ("_law_names", none)) (c.t.d.def_ 43 (d := D_law_names) rfl)
  obtain ⟨d_law_many, F_law_many⟩ := fun_of (x := "_law_many") (qual := "_law_many") (st := s_law_many) (f := He.fAd K ("_law_many", none)) (c.t.d.def_ 44 (d := D_law_many) rfl)
  obtain ⟨d_law_row, F_law_row⟩ := fun_of (x := "_law_row") (qual := "_law_row") (st := s_law_row) (f := He.fAd K ("_law_row", none)) (c.t.d.def_ 45 (d := D_law_row) rfl)
  obtain ⟨d_law_rows, F_law_rows⟩ := fun_of (x := "_law_rows") (qual := "_law_rows") (st := s_law_rows) (f := He.fAd K ("_law_rows", none)) (c.t.d.def_ 46 (d := D_law_rows) rfl)
  obtain ⟨d_law_parts, F_law_parts⟩ := fun_of (x := "_law_parts") (qual := "_law_parts") (st := s_law_parts) (f := He.fAd K ("_law_parts", none)) (c.t.d.def_ 47 (d := D_law_parts) rfl)
  obtain ⟨d_law_program, F_law_program⟩ := fun_of (x := "_law_program") (qual := "_law_program") (st := s_law_program) (f := He.fAd K ("_law_program", none)) (c.t.d.def_ 48 (d := D_law_program) rfl)
  obtain ⟨d_law_chosen, F_law_chosen⟩ := fun_of (x := "_law_chosen") (qual := "_law_chosen") (st := s_law_chosen) (f := He.fAd K ("_law_chosen", none)) (c.t.d.def_ 49 (d := D_law_chosen) rfl)
  obtain ⟨d_law_paths, F_law_paths⟩ := fun_of (x := "_law_paths") (qual := "_law_paths") (st := s_law_paths) (f := He.fAd K ("_law_paths", none)) (c.t.d.def_ 50 (d := D_law_paths) rfl)
  obtain ⟨d_law_all_paths, F_law_all_paths⟩ := fun_of (x := "_law_all_paths") (qual := "_law_all_paths") (st := s_law_all_paths) (f := He.fAd K ("_law_all_paths", none)) (c.t.d.def_ 51 (d := D_law_all_paths) rfl)
  obtain ⟨d_law_changes, F_law_changes⟩ := fun_of (x := "_law_changes") (qual := "_law_changes") (st := s_law_changes) (f := He.fAd K ("_law_changes", none)) (c.t.d.def_ 52 (d := D_law_changes) rfl)
  obtain ⟨d_law_spare, F_law_spare⟩ := fun_of (x := "_law_spare") (qual := "_law_spare") (st := s_law_spare) (f := He.fAd K ("_law_spare", none)) (c.t.d.def_ 53 (d := D_law_spare) rfl)
  obtain ⟨d_law_peeked, F_law_peeked⟩ := fun_of (x := "_law_peeked") (qual := "_law_peeked") (st := s_law_peeked) (f := He.fAd K ("_law_peeked", none)) (c.t.d.def_ 54 (d := D_law_peeked) rfl)
  obtain ⟨d_law_changed, F_law_changed⟩ := fun_of (x := "_law_changed") (qual := "_law_changed") (st := s_law_changed) (f := He.fAd K ("_law_changed", none)) (c.t.d.def_ 55 (d := D_law_changed) rfl)
  obtain ⟨d_law_due, F_law_due⟩ := fun_of (x := "_law_due") (qual := "_law_due") (st := s_law_due) (f := He.fAd K ("_law_due", none)) (c.t.d.def_ 56 (d := D_law_due) rfl)
  obtain ⟨d_law_with, F_law_with⟩ := fun_of (x := "_law_with") (qual := "_law_with") (st := s_law_with) (f := He.fAd K ("_law_with", none)) (c.t.d.def_ 57 (d := D_law_with) rfl)
  obtain ⟨d_law_no_change, F_law_no_change⟩ := fun_of (x := "_law_no_change") (qual := "_law_no_change") (st := s_law_no_change) (f := He.fAd K ("_law_no_change", none)) (c.t.d.def_ 58 (d := D_law_no_change) rfl)
  obtain ⟨d_law_first_part, F_law_first_part⟩ := fun_of (x := "_law_first_part") (qual := "_law_first_part") (st := s_law_first_part) (f := He.fAd K ("_law_first_part", none)) (c.t.d.def_ 59 (d := D_law_first_part) rfl)
  obtain ⟨d_law_second_part, F_law_second_part⟩ := fun_of (x := "_law_second_part") (qual := "_law_second_part") (st := s_law_second_part) (f := He.fAd K ("_law_second_part", none)) (c.t.d.def_ 60 (d := D_law_second_part) rfl)
  obtain ⟨d_law, F_law⟩ := fun_of (x := "law") (qual := "law") (st := s_law) (f := He.fAd K ("law", none)) (c.t.d.def_ 61 (d := D_law) rfl)
  obtain ⟨f_path, r_f_path⟩ := He.ba (He.ba (He.ba c.more).2).2
  obtain ⟨f_eq, r_f_eq⟩ := He.ba r_f_path
  obtain ⟨f_fn, r_f_fn⟩ := He.ba r_f_eq
  obtain ⟨f_ne, r_f_ne⟩ := He.ba r_f_fn
  obtain ⟨f_obj, r_f_obj⟩ := He.ba r_f_ne
  have f_own := r_f_obj
  have E_InvalidChange := excB_ok (List.all_eq_true.mp (He.ba (He.ba c.more).2).1 ("InvalidChange", "index") (by simp [xs]))
  have E_InvalidProgram := excB_ok (List.all_eq_true.mp (He.ba (He.ba c.more).2).1 ("InvalidProgram", "part") (by simp [xs]))
  have E_InvalidPath := excB_ok (List.all_eq_true.mp (He.ba (He.ba c.more).2).1 ("InvalidPath", "path") (by simp [xs]))
  obtain ⟨u_LONGEST_NAME, e_LONGEST_NAME⟩ := He.int_ok X G (c.t.d.fact 63 (f := .int "LONGEST_NAME" 8) rfl)
  obtain ⟨u_MOST_ROWS, e_MOST_ROWS⟩ := He.int_ok X G (c.t.d.fact 64 (f := .int "MOST_ROWS" 16) rfl)
  obtain ⟨u_DEEPEST_IF, e_DEEPEST_IF⟩ := He.int_ok X G (c.t.d.fact 65 (f := .int "DEEPEST_IF" 3) rfl)
  obtain ⟨u_LEAST_WORDS, e_LEAST_WORDS⟩ := He.int_ok X G (c.t.d.fact 66 (f := .int "LEAST_WORDS" 2) rfl)
  obtain ⟨u_MOST_WORDS, e_MOST_WORDS⟩ := He.int_ok X G (c.t.d.fact 67 (f := .int "MOST_WORDS" 4) rfl)
  obtain ⟨u_LEAST_SOURCES, e_LEAST_SOURCES⟩ := He.int_ok X G (c.t.d.fact 68 (f := .int "LEAST_SOURCES" 1) rfl)
  obtain ⟨u_MOST_SOURCES, e_MOST_SOURCES⟩ := He.int_ok X G (c.t.d.fact 69 (f := .int "MOST_SOURCES" 4) rfl)
  obtain ⟨u_MOST_DERIVED, e_MOST_DERIVED⟩ := He.int_ok X G (c.t.d.fact 70 (f := .int "MOST_DERIVED" 6) rfl)
  obtain ⟨u_MOST_EFFECTS, e_MOST_EFFECTS⟩ := He.int_ok X G (c.t.d.fact 71 (f := .int "MOST_EFFECTS" 4) rfl)
  obtain ⟨u_LETTERS, e_LETTERS⟩ := He.str_ok X G (c.t.d.fact 72 (f := .str "LETTERS" "abcdefghijklmnopqrstuvwxyz") rfl)
  obtain ⟨es_SLOT_PLACES, n_SLOT_PLACES, L_SLOT_PLACES, Y_SLOT_PLACES, S_SLOT_PLACES⟩ := c.t.tab 0 (t := (fun K => He.ga K "SLOT_PLACES", ["read", "peek", "put", "if", "give", "write", "say"])) rfl
  have V_SLOT_PLACES := val_of (List.all_eq_true.mp (He.ba c.more).1 (("SLOT_PLACES" : Str), ([("read", He.Dv.int 2), ("peek", He.Dv.int 2), ("put", He.Dv.int 1), ("if", He.Dv.int 1), ("give", He.Dv.int 1), ("write", He.Dv.int 2), ("say", He.Dv.int 1)] : List (Str × He.Dv))) (by simp [vt]))
  obtain ⟨es_DERIVED_FORMS, n_DERIVED_FORMS, L_DERIVED_FORMS, Y_DERIVED_FORMS, S_DERIVED_FORMS⟩ := c.t.tab 1 (t := (fun K => He.ga K "DERIVED_FORMS", ["read", "put", "if", "give"])) rfl
  have V_DERIVED_FORMS := val_of (List.all_eq_true.mp (He.ba c.more).1 (("DERIVED_FORMS" : Str), ([("read", He.Dv.glo "is_read_row"), ("put", He.Dv.glo "is_put_row"), ("if", He.Dv.glo "is_if_row"), ("give", He.Dv.glo "is_slot_row")] : List (Str × He.Dv))) (by simp [vt]))
  obtain ⟨es_EFFECT_FORMS, n_EFFECT_FORMS, L_EFFECT_FORMS, Y_EFFECT_FORMS, S_EFFECT_FORMS⟩ := c.t.tab 2 (t := (fun K => He.ga K "EFFECT_FORMS", ["read", "peek", "put", "if", "write", "say"])) rfl
  have V_EFFECT_FORMS := val_of (List.all_eq_true.mp (He.ba c.more).1 (("EFFECT_FORMS" : Str), ([("read", He.Dv.glo "is_read_row"), ("peek", He.Dv.glo "is_read_row"), ("put", He.Dv.glo "is_put_row"), ("if", He.Dv.glo "is_if_row"), ("write", He.Dv.glo "is_write_row"), ("say", He.Dv.glo "is_slot_row")] : List (Str × He.Dv))) (by simp [vt]))
  exact ⟨{
    z_isinstance := He.free_ok X G (c.t.d.fact 48 (f := .free "isinstance") rfl)
    z_str := He.free_ok X G (c.t.d.fact 49 (f := .free "str") rfl)
    z_tuple := He.free_ok X G (c.t.d.fact 50 (f := .free "tuple") rfl)
    z_list := He.free_ok X G (c.t.d.fact 51 (f := .free "list") rfl)
    z_len := He.free_ok X G (c.t.d.fact 52 (f := .free "len") rfl)
    z_all := He.free_ok X G (c.t.d.fact 53 (f := .free "all") rfl)
    z_set := He.free_ok X G (c.t.d.fact 54 (f := .free "set") rfl)
    z_enumerate := He.free_ok X G (c.t.d.fact 55 (f := .free "enumerate") rfl)
    z_range := He.free_ok X G (c.t.d.fact 56 (f := .free "range") rfl)
    z_abs := He.free_ok X G (c.t.d.fact 57 (f := .free "abs") rfl)
    z_int := He.free_ok X G (c.t.d.fact 58 (f := .free "int") rfl)
    z_max := He.free_ok X G (c.t.d.fact 59 (f := .free "max") rfl)
    z_dict := He.free_ok X G (c.t.d.fact 60 (f := .free "dict") rfl)
    z_zip := He.free_ok X G (c.t.d.fact 61 (f := .free "zip") rfl)
    z_bool := He.free_ok X G (c.t.d.fact 62 (f := .free "bool") rfl)
    u_LONGEST_NAME := u_LONGEST_NAME
    c_LONGEST_NAME := e_LONGEST_NAME
    u_MOST_ROWS := u_MOST_ROWS
    c_MOST_ROWS := e_MOST_ROWS
    u_DEEPEST_IF := u_DEEPEST_IF
    c_DEEPEST_IF := e_DEEPEST_IF
    u_LEAST_WORDS := u_LEAST_WORDS
    c_LEAST_WORDS := e_LEAST_WORDS
    u_MOST_WORDS := u_MOST_WORDS
    c_MOST_WORDS := e_MOST_WORDS
    u_LEAST_SOURCES := u_LEAST_SOURCES
    c_LEAST_SOURCES := e_LEAST_SOURCES
    u_MOST_SOURCES := u_MOST_SOURCES
    c_MOST_SOURCES := e_MOST_SOURCES
    u_MOST_DERIVED := u_MOST_DERIVED
    c_MOST_DERIVED := e_MOST_DERIVED
    u_MOST_EFFECTS := u_MOST_EFFECTS
    c_MOST_EFFECTS := e_MOST_EFFECTS
    u_LETTERS := u_LETTERS
    c_LETTERS := e_LETTERS
    a_is_integer := He.fAd K ("is_integer", none)
    d_is_integer := d_is_integer
    F_is_integer := F_is_integer
    b_is_integer := F_is_integer.binds (ps := ["value"]) fun _ _ _ _ _ _ us hl => match us, hl with | [_], _ => rfl
    m_is_integer := He.glo_ok X G (c.t.d.fact 0 (f := .glo "is_integer") rfl)
    a_is_name := He.fAd K ("is_name", none)
    d_is_name := d_is_name
    F_is_name := F_is_name
    b_is_name := F_is_name.binds (ps := ["value"]) fun _ _ _ _ _ _ us hl => match us, hl with | [_], _ => rfl
    m_is_name := He.glo_ok X G (c.t.d.fact 1 (f := .glo "is_name") rfl)
    a_are_names := He.fAd K ("are_names", none)
    d_are_names := d_are_names
    F_are_names := F_are_names
    b_are_names := F_are_names.binds (ps := ["value", "least", "most"]) fun _ _ _ _ _ _ us hl => match us, hl with | [_, _, _], _ => rfl
    m_are_names := He.glo_ok X G (c.t.d.fact 2 (f := .glo "are_names") rfl)
    a_are_named_pairs := He.fAd K ("are_named_pairs", none)
    d_are_named_pairs := d_are_named_pairs
    F_are_named_pairs := F_are_named_pairs
    b_are_named_pairs := F_are_named_pairs.binds (ps := ["value", "most", "taken"]) fun _ _ _ _ _ _ us hl => match us, hl with | [_, _, _], _ => rfl
    m_are_named_pairs := He.glo_ok X G (c.t.d.fact 3 (f := .glo "are_named_pairs") rfl)
    a_InvalidProgram_init := He.fAd K ("InvalidProgram", some "__init__")
    d_InvalidProgram_init := d_InvalidProgram_init
    F_InvalidProgram_init := F_InvalidProgram_init
    b_InvalidProgram_init := F_InvalidProgram_init.binds (ps := ["self", "part", "path"]) fun _ _ _ _ _ _ us hl => match us, hl with | [_, _, _], _ => rfl
    a_InvalidPath_init := He.fAd K ("InvalidPath", some "__init__")
    d_InvalidPath_init := d_InvalidPath_init
    F_InvalidPath_init := F_InvalidPath_init
    b_InvalidPath_init := F_InvalidPath_init.binds (ps := ["self", "path"]) fun _ _ _ _ _ _ us hl => match us, hl with | [_, _], _ => rfl
    a_UnknownCell_init := He.fAd K ("UnknownCell", some "__init__")
    d_UnknownCell_init := d_UnknownCell_init
    F_UnknownCell_init := F_UnknownCell_init
    b_UnknownCell_init := F_UnknownCell_init.binds (ps := ["self", "name"]) fun _ _ _ _ _ _ us hl => match us, hl with | [_, _], _ => rfl
    a_InvalidChange_init := He.fAd K ("InvalidChange", some "__init__")
    d_InvalidChange_init := d_InvalidChange_init
    F_InvalidChange_init := F_InvalidChange_init
    b_InvalidChange_init := F_InvalidChange_init.binds (ps := ["self", "index"]) fun _ _ _ _ _ _ us hl => match us, hl with | [_, _], _ => rfl
    a_Scope_init := He.fAd K ("Scope", some "__init__")
    d_Scope_init := d_Scope_init
    F_Scope_init := F_Scope_init
    b_Scope_init := F_Scope_init.binds (ps := ["self", "kind", "words", "sources", "readable"]) fun _ _ _ _ _ _ us hl => match us, hl with | [_, _, _, _, _], _ => rfl
    a_is_read_row := He.fAd K ("is_read_row", none)
    d_is_read_row := d_is_read_row
    F_is_read_row := F_is_read_row
    b_is_read_row := F_is_read_row.binds (ps := ["row", "scope"]) fun _ _ _ _ _ _ us hl => match us, hl with | [_, _], _ => rfl
    m_is_read_row := He.glo_ok X G (c.t.d.fact 4 (f := .glo "is_read_row") rfl)
    a_is_put_row := He.fAd K ("is_put_row", none)
    d_is_put_row := d_is_put_row
    F_is_put_row := F_is_put_row
    b_is_put_row := F_is_put_row.binds (ps := ["row", "scope"]) fun _ _ _ _ _ _ us hl => match us, hl with | [_, _], _ => rfl
    m_is_put_row := He.glo_ok X G (c.t.d.fact 5 (f := .glo "is_put_row") rfl)
    a_is_if_row := He.fAd K ("is_if_row", none)
    d_is_if_row := d_is_if_row
    F_is_if_row := F_is_if_row
    b_is_if_row := F_is_if_row.binds (ps := ["row", "scope"]) fun _ _ _ _ _ _ us hl => match us, hl with | [_, _], _ => rfl
    m_is_if_row := He.glo_ok X G (c.t.d.fact 6 (f := .glo "is_if_row") rfl)
    a_is_slot_row := He.fAd K ("is_slot_row", none)
    d_is_slot_row := d_is_slot_row
    F_is_slot_row := F_is_slot_row
    b_is_slot_row := F_is_slot_row.binds (ps := ["row", "scope"]) fun _ _ _ _ _ _ us hl => match us, hl with | [_, _], _ => rfl
    m_is_slot_row := He.glo_ok X G (c.t.d.fact 7 (f := .glo "is_slot_row") rfl)
    a_is_write_row := He.fAd K ("is_write_row", none)
    d_is_write_row := d_is_write_row
    F_is_write_row := F_is_write_row
    b_is_write_row := F_is_write_row.binds (ps := ["row", "scope"]) fun _ _ _ _ _ _ us hl => match us, hl with | [_, _], _ => rfl
    m_is_write_row := He.glo_ok X G (c.t.d.fact 8 (f := .glo "is_write_row") rfl)
    a_check_of := He.fAd K ("check_of", none)
    d_check_of := d_check_of
    F_check_of := F_check_of
    b_check_of := F_check_of.binds (ps := ["kind", "form"]) fun _ _ _ _ _ _ us hl => match us, hl with | [_, _], _ => rfl
    m_check_of := He.glo_ok X G (c.t.d.fact 9 (f := .glo "check_of") rfl)
    a_is_valid_row := He.fAd K ("is_valid_row", none)
    d_is_valid_row := d_is_valid_row
    F_is_valid_row := F_is_valid_row
    b_is_valid_row := F_is_valid_row.binds (ps := ["row", "scope", "depth"]) fun _ _ _ _ _ _ us hl => match us, hl with | [_, _, _], _ => rfl
    m_is_valid_row := He.glo_ok X G (c.t.d.fact 10 (f := .glo "is_valid_row") rfl)
    a_first_wrong_path := He.fAd K ("first_wrong_path", none)
    d_first_wrong_path := d_first_wrong_path
    F_first_wrong_path := F_first_wrong_path
    b_first_wrong_path := F_first_wrong_path.binds (ps := ["rows", "scope", "base", "depth"]) fun _ _ _ _ _ _ us hl => match us, hl with | [_, _, _, _], _ => rfl
    m_first_wrong_path := He.glo_ok X G (c.t.d.fact 11 (f := .glo "first_wrong_path") rfl)
    a_paths_of_rows := He.fAd K ("paths_of_rows", none)
    d_paths_of_rows := d_paths_of_rows
    F_paths_of_rows := F_paths_of_rows
    b_paths_of_rows := F_paths_of_rows.binds (ps := ["rows", "base"]) fun _ _ _ _ _ _ us hl => match us, hl with | [_, _], _ => rfl
    m_paths_of_rows := He.glo_ok X G (c.t.d.fact 12 (f := .glo "paths_of_rows") rfl)
    a_row_behind := He.fAd K ("row_behind", none)
    d_row_behind := d_row_behind
    F_row_behind := F_row_behind
    b_row_behind := F_row_behind.binds (ps := ["rows", "steps"]) fun _ _ _ _ _ _ us hl => match us, hl with | [_, _], _ => rfl
    m_row_behind := He.glo_ok X G (c.t.d.fact 13 (f := .glo "row_behind") rfl)
    a_rows_with := He.fAd K ("rows_with", none)
    d_rows_with := d_rows_with
    F_rows_with := F_rows_with
    b_rows_with := F_rows_with.binds (ps := ["rows", "steps", "row"]) fun _ _ _ _ _ _ us hl => match us, hl with | [_, _, _], _ => rfl
    m_rows_with := He.glo_ok X G (c.t.d.fact 14 (f := .glo "rows_with") rfl)
    a_slots_in := He.fAd K ("slots_in", none)
    d_slots_in := d_slots_in
    F_slots_in := F_slots_in
    b_slots_in := F_slots_in.binds (ps := ["rows"]) fun _ _ _ _ _ _ us hl => match us, hl with | [_], _ => rfl
    m_slots_in := He.glo_ok X G (c.t.d.fact 15 (f := .glo "slots_in") rfl)
    a_Program_init := He.fAd K ("Program", some "__init__")
    d_Program_init := d_Program_init
    F_Program_init := F_Program_init
    b_Program_init := F_Program_init.binds (ps := ["self", "words", "sources", "derived", "effects"]) fun _ _ _ _ _ _ us hl => match us, hl with | [_, _, _, _, _], _ => rfl
    a_Program_eq := He.fAd K ("Program", some "__eq__")
    d_Program_eq := d_Program_eq
    F_Program_eq := F_Program_eq
    b_Program_eq := F_Program_eq.binds (ps := ["self", "other"]) fun _ _ _ _ _ _ us hl => match us, hl with | [_, _], _ => rfl
    a_Program_cells := He.fAd K ("Program", some "cells")
    d_Program_cells := d_Program_cells
    F_Program_cells := F_Program_cells
    b_Program_cells := F_Program_cells.binds (ps := ["self"]) fun _ _ _ _ _ _ us hl => match us, hl with | [_], _ => rfl
    a_Program_derived_names := He.fAd K ("Program", some "derived_names")
    d_Program_derived_names := d_Program_derived_names
    F_Program_derived_names := F_Program_derived_names
    b_Program_derived_names := F_Program_derived_names.binds (ps := ["self"]) fun _ _ _ _ _ _ us hl => match us, hl with | [_], _ => rfl
    a_Program_effect_names := He.fAd K ("Program", some "effect_names")
    d_Program_effect_names := d_Program_effect_names
    F_Program_effect_names := F_Program_effect_names
    b_Program_effect_names := F_Program_effect_names.binds (ps := ["self"]) fun _ _ _ _ _ _ us hl => match us, hl with | [_], _ => rfl
    a_Program_body := He.fAd K ("Program", some "body")
    d_Program_body := d_Program_body
    F_Program_body := F_Program_body
    b_Program_body := F_Program_body.binds (ps := ["self", "name"]) fun _ _ _ _ _ _ us hl => match us, hl with | [_, _], _ => rfl
    a_Program_row_paths := He.fAd K ("Program", some "row_paths")
    d_Program_row_paths := d_Program_row_paths
    F_Program_row_paths := F_Program_row_paths
    b_Program_row_paths := F_Program_row_paths.binds (ps := ["self"]) fun _ _ _ _ _ _ us hl => match us, hl with | [_], _ => rfl
    a_Program_row_at := He.fAd K ("Program", some "row_at")
    d_Program_row_at := d_Program_row_at
    F_Program_row_at := F_Program_row_at
    b_Program_row_at := F_Program_row_at.binds (ps := ["self", "path"]) fun _ _ _ _ _ _ us hl => match us, hl with | [_, _], _ => rfl
    a_Program_with_row := He.fAd K ("Program", some "with_row")
    d_Program_with_row := d_Program_with_row
    F_Program_with_row := F_Program_with_row
    b_Program_with_row := F_Program_with_row.binds (ps := ["self", "path", "row"]) fun _ _ _ _ _ _ us hl => match us, hl with | [_, _, _], _ => rfl
    a_names_of := He.fAd K ("names_of", none)
    d_names_of := d_names_of
    F_names_of := F_names_of
    b_names_of := F_names_of.binds (ps := ["pairs"]) fun _ _ _ _ _ _ us hl => match us, hl with | [_], _ => rfl
    m_names_of := He.glo_ok X G (c.t.d.fact 16 (f := .glo "names_of") rfl)
    a_is_path_form := He.fAd K ("is_path_form", none)
    d_is_path_form := d_is_path_form
    F_is_path_form := F_is_path_form
    b_is_path_form := F_is_path_form.binds (ps := ["value"]) fun _ _ _ _ _ _ us hl => match us, hl with | [_], _ => rfl
    m_is_path_form := He.glo_ok X G (c.t.d.fact 17 (f := .glo "is_path_form") rfl)
    a_check_parts := He.fAd K ("check_parts", none)
    d_check_parts := d_check_parts
    F_check_parts := F_check_parts
    b_check_parts := F_check_parts.binds (ps := ["words", "sources", "derived", "effects"]) fun _ _ _ _ _ _ us hl => match us, hl with | [_, _, _, _], _ => rfl
    m_check_parts := He.glo_ok X G (c.t.d.fact 18 (f := .glo "check_parts") rfl)
    a_check_bodies := He.fAd K ("check_bodies", none)
    d_check_bodies := d_check_bodies
    F_check_bodies := F_check_bodies
    b_check_bodies := F_check_bodies.binds (ps := ["words", "sources", "derived", "effects"]) fun _ _ _ _ _ _ us hl => match us, hl with | [_, _, _, _], _ => rfl
    m_check_bodies := He.glo_ok X G (c.t.d.fact 19 (f := .glo "check_bodies") rfl)
    a_check_body := He.fAd K ("check_body", none)
    d_check_body := d_check_body
    F_check_body := F_check_body
    b_check_body := F_check_body.binds (ps := ["rows", "scope", "index"]) fun _ _ _ _ _ _ us hl => match us, hl with | [_, _, _], _ => rfl
    m_check_body := He.glo_ok X G (c.t.d.fact 20 (f := .glo "check_body") rfl)
    a_is_change := He.fAd K ("is_change", none)
    d_is_change := d_is_change
    F_is_change := F_is_change
    b_is_change := F_is_change.binds (ps := ["program", "value"]) fun _ _ _ _ _ _ us hl => match us, hl with | [_, _], _ => rfl
    m_is_change := He.glo_ok X G (c.t.d.fact 21 (f := .glo "is_change") rfl)
    a_check_changes := He.fAd K ("check_changes", none)
    d_check_changes := d_check_changes
    F_check_changes := F_check_changes
    b_check_changes := F_check_changes.binds (ps := ["program", "changes", "most"]) fun _ _ _ _ _ _ us hl => match us, hl with | [_, _, _], _ => rfl
    m_check_changes := He.glo_ok X G (c.t.d.fact 22 (f := .glo "check_changes") rfl)
    a_with_changes := He.fAd K ("with_changes", none)
    d_with_changes := d_with_changes
    F_with_changes := F_with_changes
    b_with_changes := F_with_changes.binds (ps := ["program", "changes"]) fun _ _ _ _ _ _ us hl => match us, hl with | [_, _], _ => rfl
    m_with_changes := He.glo_ok X G (c.t.d.fact 23 (f := .glo "with_changes") rfl)
    a_changed := He.fAd K ("changed", none)
    d_changed := d_changed
    F_changed := F_changed
    b_changed := F_changed.binds (ps := ["program", "changes"]) fun _ _ _ _ _ _ us hl => match us, hl with | [_, _], _ => rfl
    m_changed := He.glo_ok X G (c.t.d.fact 24 (f := .glo "changed") rfl)
    a_changed_bodies := He.fAd K ("changed_bodies", none)
    d_changed_bodies := d_changed_bodies
    F_changed_bodies := F_changed_bodies
    b_changed_bodies := F_changed_bodies.binds (ps := ["kind", "pairs", "changes"]) fun _ _ _ _ _ _ us hl => match us, hl with | [_, _, _], _ => rfl
    m_changed_bodies := He.glo_ok X G (c.t.d.fact 25 (f := .glo "changed_bodies") rfl)
    a_changed_rows := He.fAd K ("changed_rows", none)
    d_changed_rows := d_changed_rows
    F_changed_rows := F_changed_rows
    b_changed_rows := F_changed_rows.binds (ps := ["rows", "changes"]) fun _ _ _ _ _ _ us hl => match us, hl with | [_, _], _ => rfl
    m_changed_rows := He.glo_ok X G (c.t.d.fact 26 (f := .glo "changed_rows") rfl)
    a__law_state := He.fAd K ("_law_state", none)
    d__law_state := d_law_state
    F__law_state := F_law_state
    b__law_state := F_law_state.binds (ps := ["_law_script"]) fun _ _ _ _ _ _ us hl => match us, hl with | [_], _ => rfl
    m__law_state := He.glo_ok X G (c.t.d.fact 27 (f := .glo "_law_state") rfl)
    a__law_draw := He.fAd K ("_law_draw", none)
    d__law_draw := d_law_draw
    F__law_draw := F_law_draw
    b__law_draw := F_law_draw.binds (ps := ["_law_state_here", "_law_many_here"]) fun _ _ _ _ _ _ us hl => match us, hl with | [_, _], _ => rfl
    m__law_draw := He.glo_ok X G (c.t.d.fact 28 (f := .glo "_law_draw") rfl)
    a__law_names := He.fAd K ("_law_names", none)
    d__law_names := d_law_names
    F__law_names := F_law_names
    b__law_names := F_law_names.binds (ps := ["_law_state_here", "_law_many_here"]) fun _ _ _ _ _ _ us hl => match us, hl with | [_, _], _ => rfl
    m__law_names := He.glo_ok X G (c.t.d.fact 29 (f := .glo "_law_names") rfl)
    a__law_many := He.fAd K ("_law_many", none)
    d__law_many := d_law_many
    F__law_many := F_law_many
    b__law_many := F_law_many.binds (ps := ["_law_rows_here"]) fun _ _ _ _ _ _ us hl => match us, hl with | [_], _ => rfl
    m__law_many := He.glo_ok X G (c.t.d.fact 30 (f := .glo "_law_many") rfl)
    a__law_row := He.fAd K ("_law_row", none)
    d__law_row := d_law_row
    F__law_row := F_law_row
    b__law_row := F_law_row.binds (ps := ["_law_state_here", "_law_shape"]) fun _ _ _ _ _ _ us hl => match us, hl with | [_, _], _ => rfl
    m__law_row := He.glo_ok X G (c.t.d.fact 31 (f := .glo "_law_row") rfl)
    a__law_rows := He.fAd K ("_law_rows", none)
    d__law_rows := d_law_rows
    F__law_rows := F_law_rows
    b__law_rows := F_law_rows.binds (ps := ["_law_state_here", "_law_shape", "_law_depth", "_law_room"]) fun _ _ _ _ _ _ us hl => match us, hl with | [_, _, _, _], _ => rfl
    m__law_rows := He.glo_ok X G (c.t.d.fact 32 (f := .glo "_law_rows") rfl)
    a__law_parts := He.fAd K ("_law_parts", none)
    d__law_parts := d_law_parts
    F__law_parts := F_law_parts
    b__law_parts := F_law_parts.binds (ps := ["_law_state_here", "_law_sizes", "_law_peeks", "_law_writes"]) fun _ _ _ _ _ _ us hl => match us, hl with | [_, _, _, _], _ => rfl
    m__law_parts := He.glo_ok X G (c.t.d.fact 33 (f := .glo "_law_parts") rfl)
    a__law_program := He.fAd K ("_law_program", none)
    d__law_program := d_law_program
    F__law_program := F_law_program
    b__law_program := F_law_program.binds (ps := ["_law_parts_here"]) fun _ _ _ _ _ _ us hl => match us, hl with | [_], _ => rfl
    m__law_program := He.glo_ok X G (c.t.d.fact 34 (f := .glo "_law_program") rfl)
    a__law_chosen := He.fAd K ("_law_chosen", none)
    d__law_chosen := d_law_chosen
    F__law_chosen := F_law_chosen
    b__law_chosen := F_law_chosen.binds (ps := ["_law_state_here", "_law_rows_here", "_law_many_here"]) fun _ _ _ _ _ _ us hl => match us, hl with | [_, _, _], _ => rfl
    m__law_chosen := He.glo_ok X G (c.t.d.fact 35 (f := .glo "_law_chosen") rfl)
    a__law_paths := He.fAd K ("_law_paths", none)
    d__law_paths := d_law_paths
    F__law_paths := F_law_paths
    b__law_paths := F_law_paths.binds (ps := ["_law_rows_here", "_law_path"]) fun _ _ _ _ _ _ us hl => match us, hl with | [_, _], _ => rfl
    m__law_paths := He.glo_ok X G (c.t.d.fact 36 (f := .glo "_law_paths") rfl)
    a__law_all_paths := He.fAd K ("_law_all_paths", none)
    d__law_all_paths := d_law_all_paths
    F__law_all_paths := F_law_all_paths
    b__law_all_paths := F_law_all_paths.binds (ps := ["_law_parts_here"]) fun _ _ _ _ _ _ us hl => match us, hl with | [_], _ => rfl
    m__law_all_paths := He.glo_ok X G (c.t.d.fact 37 (f := .glo "_law_all_paths") rfl)
    a__law_changes := He.fAd K ("_law_changes", none)
    d__law_changes := d_law_changes
    F__law_changes := F_law_changes
    b__law_changes := F_law_changes.binds (ps := ["_law_parts_here"]) fun _ _ _ _ _ _ us hl => match us, hl with | [_], _ => rfl
    m__law_changes := He.glo_ok X G (c.t.d.fact 38 (f := .glo "_law_changes") rfl)
    a__law_spare := He.fAd K ("_law_spare", none)
    d__law_spare := d_law_spare
    F__law_spare := F_law_spare
    b__law_spare := F_law_spare.binds (ps := ["_law_rows_here", "_law_path"]) fun _ _ _ _ _ _ us hl => match us, hl with | [_, _], _ => rfl
    m__law_spare := He.glo_ok X G (c.t.d.fact 39 (f := .glo "_law_spare") rfl)
    a__law_peeked := He.fAd K ("_law_peeked", none)
    d__law_peeked := d_law_peeked
    F__law_peeked := F_law_peeked
    b__law_peeked := F_law_peeked.binds (ps := ["_law_rows_here", "_law_path", "_law_chosen_here"]) fun _ _ _ _ _ _ us hl => match us, hl with | [_, _, _], _ => rfl
    m__law_peeked := He.glo_ok X G (c.t.d.fact 40 (f := .glo "_law_peeked") rfl)
    a__law_changed := He.fAd K ("_law_changed", none)
    d__law_changed := d_law_changed
    F__law_changed := F_law_changed
    b__law_changed := F_law_changed.binds (ps := ["_law_parts_here", "_law_kind", "_law_chosen_here"]) fun _ _ _ _ _ _ us hl => match us, hl with | [_, _, _], _ => rfl
    m__law_changed := He.glo_ok X G (c.t.d.fact 41 (f := .glo "_law_changed") rfl)
    a__law_due := He.fAd K ("_law_due", none)
    d__law_due := d_law_due
    F__law_due := F_law_due
    b__law_due := F_law_due.binds (ps := ["_law_parts_here", "_law_chosen_here"]) fun _ _ _ _ _ _ us hl => match us, hl with | [_, _], _ => rfl
    m__law_due := He.glo_ok X G (c.t.d.fact 42 (f := .glo "_law_due") rfl)
    a__law_with := He.fAd K ("_law_with", none)
    d__law_with := d_law_with
    F__law_with := F_law_with
    b__law_with := F_law_with.binds (ps := ["_law_program_here", "_law_changes_here"]) fun _ _ _ _ _ _ us hl => match us, hl with | [_, _], _ => rfl
    m__law_with := He.glo_ok X G (c.t.d.fact 43 (f := .glo "_law_with") rfl)
    a__law_no_change := He.fAd K ("_law_no_change", none)
    d__law_no_change := d_law_no_change
    F__law_no_change := F_law_no_change
    b__law_no_change := F_law_no_change.binds (ps := ["_law_state_here", "_law_parts_here"]) fun _ _ _ _ _ _ us hl => match us, hl with | [_, _], _ => rfl
    m__law_no_change := He.glo_ok X G (c.t.d.fact 44 (f := .glo "_law_no_change") rfl)
    a__law_first_part := He.fAd K ("_law_first_part", none)
    d__law_first_part := d_law_first_part
    F__law_first_part := F_law_first_part
    b__law_first_part := F_law_first_part.binds (ps := ["_law_script"]) fun _ _ _ _ _ _ us hl => match us, hl with | [_], _ => rfl
    m__law_first_part := He.glo_ok X G (c.t.d.fact 45 (f := .glo "_law_first_part") rfl)
    a__law_second_part := He.fAd K ("_law_second_part", none)
    d__law_second_part := d_law_second_part
    F__law_second_part := F_law_second_part
    b__law_second_part := F_law_second_part.binds (ps := ["_law_script"]) fun _ _ _ _ _ _ us hl => match us, hl with | [_], _ => rfl
    m__law_second_part := He.glo_ok X G (c.t.d.fact 46 (f := .glo "_law_second_part") rfl)
    a_law := He.fAd K ("law", none)
    d_law := d_law
    F_law := F_law
    b_law := F_law.binds (ps := ["_law_script"]) fun _ _ _ _ _ _ us hl => match us, hl with | [_], _ => rfl
    m_law := He.glo_ok X G (c.t.d.fact 47 (f := .glo "law") rfl)
    c_ToldError := He.ga K "ToldError"
    m_ToldError := He.glo_ok X G (c.t.d.fact 73 (f := .glo "ToldError") rfl)
    c_InvalidProgram := He.ga K "InvalidProgram"
    m_InvalidProgram := He.glo_ok X G (c.t.d.fact 74 (f := .glo "InvalidProgram") rfl)
    x_InvalidProgram := E_InvalidProgram.1
    xi_InvalidProgram := E_InvalidProgram.2.1
    xt_InvalidProgram := E_InvalidProgram.2.2.1
    n_InvalidProgram_part := E_InvalidProgram.2.2.2.1
    n_InvalidProgram_path := He.eqO_ok f_path
    xa_InvalidProgram := E_InvalidProgram.2.2.2.2.ga
    xg_InvalidProgram := E_InvalidProgram.2.2.2.2.gg
    xh_InvalidProgram := E_InvalidProgram.2.2.2.2.hdC
    xe_InvalidProgram := He.exm_ok (c.t.d.fact 75 (f := .exm "InvalidProgram" "InvalidProgram" true) rfl)
    c_InvalidPath := He.ga K "InvalidPath"
    m_InvalidPath := He.glo_ok X G (c.t.d.fact 76 (f := .glo "InvalidPath") rfl)
    x_InvalidPath := E_InvalidPath.1
    xi_InvalidPath := E_InvalidPath.2.1
    xt_InvalidPath := E_InvalidPath.2.2.1
    n_InvalidPath_path := E_InvalidPath.2.2.2.1
    xa_InvalidPath := E_InvalidPath.2.2.2.2.ga
    xg_InvalidPath := E_InvalidPath.2.2.2.2.gg
    xh_InvalidPath := E_InvalidPath.2.2.2.2.hdC
    xe_InvalidPath := He.exm_ok (c.t.d.fact 77 (f := .exm "InvalidPath" "InvalidPath" true) rfl)
    xn_InvalidPath_InvalidProgram := He.exm_ok (c.t.d.fact 78 (f := .exm "InvalidPath" "InvalidProgram" false) rfl)
    c_UnknownCell := He.ga K "UnknownCell"
    m_UnknownCell := He.glo_ok X G (c.t.d.fact 79 (f := .glo "UnknownCell") rfl)
    c_InvalidChange := He.ga K "InvalidChange"
    m_InvalidChange := He.glo_ok X G (c.t.d.fact 80 (f := .glo "InvalidChange") rfl)
    x_InvalidChange := E_InvalidChange.1
    xi_InvalidChange := E_InvalidChange.2.1
    xt_InvalidChange := E_InvalidChange.2.2.1
    n_InvalidChange_index := E_InvalidChange.2.2.2.1
    xa_InvalidChange := E_InvalidChange.2.2.2.2.ga
    xg_InvalidChange := E_InvalidChange.2.2.2.2.gg
    xh_InvalidChange := E_InvalidChange.2.2.2.2.hdC
    xe_InvalidChange := He.exm_ok (c.t.d.fact 81 (f := .exm "InvalidChange" "InvalidChange" true) rfl)
    xn_InvalidChange_InvalidProgram := He.exm_ok (c.t.d.fact 82 (f := .exm "InvalidChange" "InvalidProgram" false) rfl)
    xn_InvalidChange_InvalidPath := He.exm_ok (c.t.d.fact 83 (f := .exm "InvalidChange" "InvalidPath" false) rfl)
    c_Scope := He.ga K "Scope"
    m_Scope := He.glo_ok X G (c.t.d.fact 84 (f := .glo "Scope") rfl)
    l_Scope := He.cls_ok (c.t.d.fact 85 (f := .cls "Scope") rfl)
    k_Scope := He.mkr_ok (c.t.d.fact 86 (f := .mkr "Scope") rfl)
    n_Scope_kind := He.noat_ok (c.t.d.fact 87 (f := .noat "Scope" "kind") rfl)
    n_Scope_words := He.noat_ok (c.t.d.fact 88 (f := .noat "Scope" "words") rfl)
    n_Scope_sources := He.noat_ok (c.t.d.fact 89 (f := .noat "Scope" "sources") rfl)
    n_Scope_readable := He.noat_ok (c.t.d.fact 90 (f := .noat "Scope" "readable") rfl)
    c_Program := He.ga K "Program"
    m_Program := He.glo_ok X G (c.t.d.fact 91 (f := .glo "Program") rfl)
    l_Program := He.cls_ok (c.t.d.fact 92 (f := .cls "Program") rfl)
    k_Program := He.mkr_ok (c.t.d.fact 93 (f := .mkr "Program") rfl)
    n_Program_words := He.noat_ok (c.t.d.fact 94 (f := .noat "Program" "words") rfl)
    n_Program_sources := He.noat_ok (c.t.d.fact 95 (f := .noat "Program" "sources") rfl)
    n_Program_derived := He.noat_ok (c.t.d.fact 96 (f := .noat "Program" "derived") rfl)
    n_Program_effects := He.noat_ok (c.t.d.fact 97 (f := .noat "Program" "effects") rfl)
    n_Program__derived_names := He.noat_ok (c.t.d.fact 98 (f := .noat "Program" "_derived_names") rfl)
    n_Program__effect_names := He.noat_ok (c.t.d.fact 99 (f := .noat "Program" "_effect_names") rfl)
    t_Program_cells := He.meth_ok (c.t.d.fact 100 (f := .meth "Program" "cells") rfl)
    t_Program_derived_names := He.meth_ok (c.t.d.fact 101 (f := .meth "Program" "derived_names") rfl)
    t_Program_effect_names := He.meth_ok (c.t.d.fact 102 (f := .meth "Program" "effect_names") rfl)
    t_Program_body := He.meth_ok (c.t.d.fact 103 (f := .meth "Program" "body") rfl)
    t_Program_row_paths := He.meth_ok (c.t.d.fact 104 (f := .meth "Program" "row_paths") rfl)
    t_Program_row_at := He.meth_ok (c.t.d.fact 105 (f := .meth "Program" "row_at") rfl)
    t_Program_with_row := He.meth_ok (c.t.d.fact 106 (f := .meth "Program" "with_row") rfl)
    i_Program := ownB_ok (He.cls_ok (c.t.d.fact 92 (f := .cls "Program") rfl)) f_own
    a_SLOT_PLACES := He.ga K "SLOT_PLACES"
    c_SLOT_PLACES := He.glo_ok X G (c.t.d.fact 107 (f := .glo "SLOT_PLACES") rfl)
    w_SLOT_PLACES := ⟨es_SLOT_PLACES, n_SLOT_PLACES, L_SLOT_PLACES, Y_SLOT_PLACES, S_SLOT_PLACES⟩
    w_SLOT_PLACES_read := kdct_of L_SLOT_PLACES Y_SLOT_PLACES (V_SLOT_PLACES ("read", He.Dv.int 2) (by simp))
    w_SLOT_PLACES_peek := kdct_of L_SLOT_PLACES Y_SLOT_PLACES (V_SLOT_PLACES ("peek", He.Dv.int 2) (by simp))
    w_SLOT_PLACES_put := kdct_of L_SLOT_PLACES Y_SLOT_PLACES (V_SLOT_PLACES ("put", He.Dv.int 1) (by simp))
    w_SLOT_PLACES_if := kdct_of L_SLOT_PLACES Y_SLOT_PLACES (V_SLOT_PLACES ("if", He.Dv.int 1) (by simp))
    w_SLOT_PLACES_give := kdct_of L_SLOT_PLACES Y_SLOT_PLACES (V_SLOT_PLACES ("give", He.Dv.int 1) (by simp))
    w_SLOT_PLACES_write := kdct_of L_SLOT_PLACES Y_SLOT_PLACES (V_SLOT_PLACES ("write", He.Dv.int 2) (by simp))
    w_SLOT_PLACES_say := kdct_of L_SLOT_PLACES Y_SLOT_PLACES (V_SLOT_PLACES ("say", He.Dv.int 1) (by simp))
    a_DERIVED_FORMS := He.ga K "DERIVED_FORMS"
    c_DERIVED_FORMS := He.glo_ok X G (c.t.d.fact 108 (f := .glo "DERIVED_FORMS") rfl)
    w_DERIVED_FORMS := ⟨es_DERIVED_FORMS, n_DERIVED_FORMS, L_DERIVED_FORMS, Y_DERIVED_FORMS, S_DERIVED_FORMS⟩
    w_DERIVED_FORMS_read := kdct_of L_DERIVED_FORMS Y_DERIVED_FORMS (V_DERIVED_FORMS ("read", He.Dv.glo "is_read_row") (by simp))
    w_DERIVED_FORMS_put := kdct_of L_DERIVED_FORMS Y_DERIVED_FORMS (V_DERIVED_FORMS ("put", He.Dv.glo "is_put_row") (by simp))
    w_DERIVED_FORMS_if := kdct_of L_DERIVED_FORMS Y_DERIVED_FORMS (V_DERIVED_FORMS ("if", He.Dv.glo "is_if_row") (by simp))
    w_DERIVED_FORMS_give := kdct_of L_DERIVED_FORMS Y_DERIVED_FORMS (V_DERIVED_FORMS ("give", He.Dv.glo "is_slot_row") (by simp))
    a_EFFECT_FORMS := He.ga K "EFFECT_FORMS"
    c_EFFECT_FORMS := He.glo_ok X G (c.t.d.fact 109 (f := .glo "EFFECT_FORMS") rfl)
    w_EFFECT_FORMS := ⟨es_EFFECT_FORMS, n_EFFECT_FORMS, L_EFFECT_FORMS, Y_EFFECT_FORMS, S_EFFECT_FORMS⟩
    w_EFFECT_FORMS_read := kdct_of L_EFFECT_FORMS Y_EFFECT_FORMS (V_EFFECT_FORMS ("read", He.Dv.glo "is_read_row") (by simp))
    w_EFFECT_FORMS_peek := kdct_of L_EFFECT_FORMS Y_EFFECT_FORMS (V_EFFECT_FORMS ("peek", He.Dv.glo "is_read_row") (by simp))
    w_EFFECT_FORMS_put := kdct_of L_EFFECT_FORMS Y_EFFECT_FORMS (V_EFFECT_FORMS ("put", He.Dv.glo "is_put_row") (by simp))
    w_EFFECT_FORMS_if := kdct_of L_EFFECT_FORMS Y_EFFECT_FORMS (V_EFFECT_FORMS ("if", He.Dv.glo "is_if_row") (by simp))
    w_EFFECT_FORMS_write := kdct_of L_EFFECT_FORMS Y_EFFECT_FORMS (V_EFFECT_FORMS ("write", He.Dv.glo "is_write_row") (by simp))
    w_EFFECT_FORMS_say := kdct_of L_EFFECT_FORMS Y_EFFECT_FORMS (V_EFFECT_FORMS ("say", He.Dv.glo "is_slot_row") (by simp))
    xq_Program := He.eqO_ok f_eq
    xf_Program := f_fn
    xz_Program := He.eqO_ok f_ne
    xo_Program := of_decide_eq_true f_obj
    xn_InvalidProgram_InvalidChange := He.exm_ok (c.t.d.fact 110 (f := .exm "InvalidProgram" "InvalidChange" false) rfl)
  }, fun s u => law_binds (ps := ["_law_script"]) F_law (fun _ _ _ _ _ _ us hl => match us, hl with | [_], _ => rfl) s [u] rfl⟩
abbrev R : PySem.W.OpenRow := PySem.W.OpenLaw.row PySem.Challenge.rw_toldonward_k77_whole_changes_made
def as_ : List Addr := [3, 55, 54, 75, 74, 94, 93, 113, 112, 132, 131, 152, 151, 315, 314, 135, 192, 193, 28, 27, 33, 32, 38, 37, 45, 44, 72, 71, 91, 90, 110, 109, 129, 128, 149, 148, 163, 162, 170, 169, 177, 176, 184, 183, 191, 190, 200, 199, 207, 206, 214, 213, 221, 220, 228, 227, 235, 234, 242, 241, 256, 255, 263, 262, 270, 269, 277, 276, 284, 283, 291, 290, 298, 297, 305, 304, 312, 311, 324, 323, 329, 328, 336, 335, 343, 342, 350, 349, 357, 356, 364, 363, 371, 370, 378, 377, 383, 382, 388, 387, 395, 394, 402, 401, 409, 408, 416, 415, 423, 422, 430, 429, 437, 436, 444, 443, 451, 450, 458, 457, 465, 464, 472, 471, 479, 478, 486, 485, 493, 492, 500, 499, 507, 506, 514, 513, 519, 518, 526, 525, 533, 532]
abbrev hk : PySem.W.Hook := hookV as_ fa fn ts us ex
def ob (s : PySem.W.SharedT) : AlU := obsV as_ fa fn ts us ex (HandSHeadRun.getT s)
theorem ob_eq (s : PySem.W.SharedT) : ob s = hk.obs s.abs := obsV_eq (HandSHeadRun.getT_eq s)
def loose0 : List Str := ["_wall", "LONGEST_NAME", "is_integer", "is_name", "are_names", "are_named_pairs", "ToldError", "InvalidProgram", "InvalidPath", "UnknownCell", "InvalidChange", "MOST_ROWS", "DEEPEST_IF", "SLOT_PLACES", "Scope", "is_read_row", "is_put_row", "is_if_row", "is_slot_row", "is_write_row", "DERIVED_FORMS", "EFFECT_FORMS", "check_of", "is_valid_row", "first_wrong_path", "paths_of_rows", "row_behind", "rows_with", "slots_in", "LEAST_WORDS"]
def loose1 : List Str := ["MOST_WORDS", "LEAST_SOURCES", "MOST_SOURCES", "MOST_DERIVED", "MOST_EFFECTS", "Program", "names_of", "is_path_form", "check_parts", "check_bodies", "check_body", "LETTERS", "is_change", "check_changes", "with_changes", "changed", "changed_bodies", "changed_rows", "_law_state", "_law_draw", "_law_names", "_law_many", "_law_row", "_law_rows", "_law_parts", "_law_program", "_law_chosen", "_law_paths", "_law_all_paths", "_law_changes"]
def loose2 : List Str := ["_law_spare", "_law_peeked", "_law_changed", "_law_due", "_law_with", "_law_no_change", "_law_first_part", "_law_second_part"]
def loose : List Str := loose0 ++ (loose1 ++ (loose2))
end K77
namespace K77
open PySem PySem.Spec PyProof.Rows L2 Td
abbrev RunOk (w : World) : Prop := HandSHeadRun.RunEq R (PySem.W.view R.prog [74]) hk ob 8000 loose w
theorem run_f (w : World) : RunOk (w.withFollow "special-get-raises" false) := by
  intro os
  kernel_rfl
theorem run_t (w : World) : RunOk (w.withFollow "special-get-raises" true) := by
  intro os
  kernel_rfl
theorem run (w : World) : HandSHeadRun.RunEq R (PySem.W.view R.prog [74]) hk ob 8000 loose w := PySem.W.byRow2 "special-get-raises" (P := RunOk) run_f run_t w
end K77
open PySem PySem.W PySem.Calls PyProof.Rows
set_option maxRecDepth 100000 in
set_option maxHeartbeats 0 in
theorem PySem.Challenge.cw_toldonward_k77_whole_changes_made_holds : PySem.Challenge.rw_toldonward_k77_whole_changes_made.Holds := by
  w_on; o_law
  refine HandSHeadRun.head_any (r := OpenLaw.row PySem.Challenge.rw_toldonward_k77_whole_changes_made) (q := view (OpenLaw.row PySem.Challenge.rw_toldonward_k77_whole_changes_made).prog [74]) (H := K77.hk) (ob := K77.ob) (M := 8000) (loose := K77.loose) (d := HandSHeadRun.topDef (OpenLaw.row PySem.Challenge.rw_toldonward_k77_whole_changes_made).prog 74) (kwd := []) K77.ob_eq
    (by kernel_rfl) (fun s => by kernel_rfl) K77.run (by kernel_rfl) (by kernel_rfl) (by kernel_rfl) (by rfl) (by first | assumption | decide +kernel) (by decide +kernel) ⟨rfl, rfl, rfl, rfl, rfl, by decide +kernel⟩ ?hw ?hc
  case hw => w_witness2
  case hc =>
    refine L2.walk_ofE (l := PySem.Challenge.rw_toldonward_k77_whole_changes_made) (n := 63) (k := 16) (x := "_law_script") (CX := L2.CX0) rfl (by decide) (by kernel_rfl) ⟨rfl, by decide, by decide⟩ ?F (fun _ _ _ _ z => z)
    intro w mg fa h Y G hmg0
    obtain ⟨K, KX, c⟩ := Y
    have hmg : mg ("law" : PySem.Str) = some (.ref fa) := by
      have e : (HandSHeadRun.topDef (OpenLaw.row PySem.Challenge.rw_toldonward_k77_whole_changes_made).prog 74).name = ("law" : PySem.Str) := by kernel_rfl
      rw [← e]
      exact hmg0
    obtain ⟨T, hb⟩ := K77.tops KX G c
    have e := hmg.symm.trans T.m_law
    cases e
    exact ⟨K, T.d_law, K77.spLaw K, KX, hb, fun H a ns hl _ hS => ⟨a, ns, rfl, hS, hl, fun _ => rfl⟩, fun base _ _ => K77.law_of T⟩
