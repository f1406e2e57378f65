import PyProof.Rows.All
import Wide.All
import OpenK.AllK
import Wide.FinOn
import HandS.ForMost
import HandS.ForExc
import HandS.SetKeys
import HandS.Strs
import HandS.Set
import HandS.More
import HandS.Wide
import HandS.IsInst
import HandS.ExcInit
import HandS.CallLocal
import HandS.TupAny
import HandS.Codes
import KE.GoesEnum
import HandS.WrittenGet
import HandS.Nested
import HandS.HeadWalk
import KE.KSuper
import HandS.ExcField
import HandS.TryMany
import HandS.DeepEq
import PyProof.EqLayable
import KE.KDictZip
import KE.GoesMore
import HandS.Zip
import HandS.ListItems
import KE.KItemsList
import HandS.Conv
import HandS.List
import HandS.StrMore
import KE.KRevSl
import HandS.Text
import PyProof.CollectWalk
import HandS.Gcd
import HandS.SetFor
import HandS.TupMul
import HandS.ExcOwn
import HandS.Defaults
import HandS.MakeKwOnly
import HandS.HeadHook4
import HandS.HeadEnd
import HandS.Head2
import PySem.Challenge.RW_toldonward_k68_whole_plain_machine
set_option Elab.async false
set_option maxRecDepth 100000
set_option maxHeartbeats 0
set_option linter.all false
/-! Own rules beside the hand layer: for any program. -/
namespace TdSet
open PySem PySem.Spec PyProof.Rows SS
/-- how many different ones stand among the first i -/
def dcnt (xs : List Str) : Nat → Nat
  | 0 => 0
  | i + 1 => if (xs.take i).any (· == xs.getD i Str.empty) = true then dcnt xs i else dcnt xs i + 1
theorem dcnt_le (xs : List Str) : ∀ i, dcnt xs i ≤ i
  | 0 => Nat.le_refl _
  | i + 1 => by
    have := dcnt_le xs i
    unfold dcnt
    split <;> omega
theorem dcnt_full {xs : List Str} : ∀ {i : Nat}, i ≤ xs.length → dcnt xs i = i → (xs.take i).Nodup
  | 0, _, _ => by simp
  | i + 1, hi, h => by
    have hl := dcnt_le xs i
    unfold dcnt at h
    split at h
    · omega
    · rename_i hn
      have ih := dcnt_full (xs := xs) (i := i) (by omega) (by omega)
      have hx : i < xs.length := by omega
      rw [List.take_succ_eq_append_getElem hx]
      refine List.nodup_append.mpr ⟨ih, by simp, ?_⟩
      intro a ha b hb hab
      have e : b = xs[i] := by simpa using hb
      apply hn
      refine List.any_eq_true.mpr ⟨a, ha, ?_⟩
      rw [hab, e, List.getD_eq_getElem?_getD, List.getElem?_eq_getElem hx]
      simp
theorem dcnt_nodup {xs : List Str} : ∀ {i : Nat}, i ≤ xs.length → (xs.take i).Nodup → dcnt xs i = i
  | 0, _, _ => rfl
  | i + 1, hi, h => by
    have hx : i < xs.length := by omega
    rw [List.take_succ_eq_append_getElem hx] at h
    obtain ⟨h1, _, h3⟩ := List.nodup_append.mp h
    have ih := dcnt_nodup (xs := xs) (i := i) (by omega) h1
    unfold dcnt
    rw [if_neg, ih]
    intro hh
    obtain ⟨a, ha, hb⟩ := List.any_eq_true.mp hh
    rw [List.getD_eq_getElem?_getD, List.getElem?_eq_getElem hx] at hb
    exact h3 a ha xs[i] (by simp) (by simpa using hb)
/-- the set at S has met the first i texts -/
def Met (prog : Program) (w : World) (S : Addr) (xs : List Str) (i : Nat) (h : Heap) : Prop := h.SetOf (PySem.strKind prog w) S (fun z => (xs.take i).any (· == z)) (dcnt xs i)
theorem Met.move {prog : Program} {w : World} {S : Addr} {xs : List Str} {i : Nat} {h h' : Heap} (m : Met prog w S xs i h) (k : ∀ o, h.get? S = some o → h'.get? S = some o) : Met prog w S xs i h' := by
  obtain ⟨o, es, ep, tb, e, r⟩ := m
  exact ⟨o, es, ep, tb, k o e, r⟩
/-- one text more -/
theorem Met.more {prog : Program} {w : World} {S : Addr} {xs : List Str} {i : Nat} {h : Heap} {z : Str} (hz : xs[i]? = some z)
    (m : h.SetOf (PySem.strKind prog w) S (fun y => (xs.take i).any (· == y) || decide (y = z)) (if (xs.take i).any (· == z) = true then dcnt xs i else dcnt xs i + 1)) : Met prog w S xs (i + 1) h := by
  have e : xs.take (i + 1) = xs.take i ++ [z] := by rw [List.take_add_one, hz]; rfl
  refine SetOf_congr m (fun y => ?_) ?_
  · rw [e, List.any_append]
    congr 1
    by_cases q : y = z
    · rw [q]; simp
    · have : ¬ z = y := fun h => q h.symm
      simp [q, this]
  · show _ = (if (xs.take i).any (· == xs.getD i Str.empty) = true then dcnt xs i else dcnt xs i + 1)
    rw [List.getD_eq_getElem?_getD, hz]
    rfl
section
variable {prog : Program} {w : World} {A : Around} {R : Result → Shared → Prop} {I S : Addr} {fp wr : List Addr} {G : Array GenState → Array GenState → Prop} {i : Nat} {P : Nat → Value → Prop} {St : Nat → Shared → Prop} {xs : List Str} {s : Shared}
/-- an iterator whose item i is the text i of xs -/
structure Turns (prog : Program) (w : World) (A : Around) (I : Addr) (fp wr : List Addr) (G : Array GenState → Array GenState → Prop) (xs : List Str) (P : Nat → Value → Prop) (St : Nat → Shared → Prop) : Prop where
  walks : WalksS prog w A I fp wr G xs.length P St
  texts : ∀ i v, P i v → ∃ z t, xs[i]? = some z ∧ v = .str z t
/-- the loop's code, one round of it -/
theorem round_of (h : wpAny (model prog w) A.in1 (Builtin.«set.update.loop» ⟨[.ref S, .ref I], []⟩) (fun fin s' => match fin with | .done f => R (.ok f) s' | .again c => c.quiet = true ∧ codeAny (model prog w) A c R s') (fun e s' => R (.error e) s') s) :
    codeAny (model prog w) A (.builtin "set.update.loop" ⟨[.ref S, .ref I], []⟩) R s :=
  codeAny_builtin PyProof.Rows.F.entry_set_update_loop (by rw [Around.under_plainId PyProof.Rows.F.plain_set_update_loop _]; exact h)
theorem last_round (W : Turns prog w A.in1 I fp wr G xs P St) (ns : S ∉ wr) (hst : St xs.length s) (hS : Met prog w S xs xs.length s.heap)
    (fin : ∀ s', Moved wr G s s' → Met prog w S xs xs.length s'.heap → R (.ok (.ret .none)) s') : codeAny (model prog w) A (.builtin "set.update.loop" ⟨[.ref S, .ref I], []⟩) R s :=
  round_of (wpAny_bind (W.walks.done s _ _ hst fun s' hm => wpAny_pure (fin s' hm (hS.move fun o e => hm.heap S o ns e))))
theorem next_round (W : Turns prog w A.in1 I fp wr G xs P St) (hf : S ∉ fp) (hn : xs.length < 4000) (hi : i < xs.length) (hst : St i s) (hS : Met prog w S xs i s.heap)
    (go : ∀ s', St (i + 1) s' → Met prog w S xs (i + 1) s'.heap → Moved (S :: wr) G s s' → codeAny (model prog w) A (.builtin "set.update.loop" ⟨[.ref S, .ref I], []⟩) R s') :
    codeAny (model prog w) A (.builtin "set.update.loop" ⟨[.ref S, .ref I], []⟩) R s := by
  refine round_of (wpAny_bind (W.walks.item i s _ _ hi hst fun v s1 hv st1 m1 => ?_))
  obtain ⟨z, t, hz, rfl⟩ := W.texts i v hv
  have hd := dcnt_le xs i
  have S1 := hS.move fun o e => m1.heap S o (fun h => hf (W.walks.sub _ h)) e
  refine wpAny_bind (wpAny_holding (wpAny_holding (wpAny_bind ((PySem.strKind prog w).pyHash (k := z) (strKind_is _ _ _ _) (wpAny_setAddHashed_of (knd := PySem.strKind prog w) (s := { s1 with toks := s1.toks + 1 }) (strKind_is _ _ _ _) rfl S1 (by unfold scanBound; omega) fun h2 sb S2 => ?_)))))
  have keep : ∀ b o, b ≠ S → s1.heap.get? b = some o → h2.get? b = some o := fun b o nb e => by rw [sb.2 b nb]; exact e
  refine wpAny_pure ⟨plainId_quiet PyProof.Rows.F.plain_set_update_loop _, go _ (W.walks.frame _ s1 _ _ st1 (Nat.le_succ _) fun b hb o e => keep b o (fun q => hf (q ▸ hb)) e) (Met.more hz S2) ?_⟩
  exact (m1.mono fun b hb => List.mem_cons_of_mem _ hb).then_heap (Nat.le_succ _) fun b o hb e => keep b o (fun q => hb (q ▸ List.mem_cons_self)) e
theorem rounds (W : Turns prog w A.in1 I fp wr G xs P St) (hf : S ∉ fp) (hn : xs.length < 4000) : ∀ (left i : Nat) (s : Shared), i + left = xs.length → St i s → Met prog w S xs i s.heap →
    (∀ s', Moved (S :: wr) G s s' → Met prog w S xs xs.length s'.heap → R (.ok (.ret .none)) s') → codeAny (model prog w) A (.builtin "set.update.loop" ⟨[.ref S, .ref I], []⟩) R s
  | 0, i, s, e, st, m, fin => by
    have e : i = xs.length := e
    subst e
    exact last_round W (fun h => hf (W.walks.sub _ h)) st m fun s' mv m' => fin s' (mv.mono fun b hb => List.mem_cons_of_mem _ hb) m'
  | left + 1, i, s, e, st, m, fin =>
    next_round W hf hn (by omega) st m fun s1 st1 m1 mv1 => rounds W hf hn left (i + 1) s1 (by omega) st1 m1 fun s2 mv2 m2 => fin s2 (Moved.trans W.walks.gtrans mv1 mv2) m2
end
section
variable {prog : Program} {w : World} {A : Around} {E : Value → Shared → Prop} {s : Shared}
/-- the new set's own beginning: it takes the tuple's texts -/
theorem init_texts {R : Result → Shared → Prop} {S l : Addr} {o : Obj} {items : Array Value} {xs : List Str} {led : Bool} (hh : A.handled = none) (hS : s.heap.get? S = some { cls := .type "set", dict := none, data := .set #[] 0 (.fresh 0 0 led) })
    (ho : s.heap.get? l = some o) (hc : o.cls = .type "tuple") (hd : ∃ nl, o.data = .seq items nl) (hne : l ≠ S) (hi : PyProof.Rows.StrsAre items.toList xs) (hn : xs.length < 4000)
    (fin : ∀ (h' : Heap) (tk : Nat), Met prog w S xs xs.length h' → (∀ b u, b ≠ S → s.heap.get? b = some u → h'.get? b = some u) → R (.ok (.ret .none)) { s with heap := h', toks := tk }) :
    wpAny (model prog w) A.in1 (Builtin.«set.__init__» ⟨[.ref S, .ref l], []⟩) (fun fin s' => match fin with | .done f => R (.ok f) s' | .again c => c.quiet = true ∧ codeAny (model prog w) A c R s') (fun e s' => R (.error e) s') s := by
  have ht : s.heap.IsTuple l items := let ⟨nl, e⟩ := hd; ⟨o, ho, hc, nl, e⟩
  have q1 : s.TypeIs (.ref l) "tuple" := ⟨o, ho, hc⟩
  have q2 := PySem.F.sub_tuple_set
  have q3 := PySem.F.sub_tuple_frozenset
  have q4 : (Value.type "tuple" == Value.type "dict") = false := by decide
  unfold Builtin.«set.__init__» noKeywords Builtin.Frozenset.updateFrom
  generalize ePI : pyIter = PI
  wp_walk
  subst ePI
  refine wpAny_pyIter_tuple ht (wpAny_bind (wpAny_runValue ?_))
  have sz : (s.heap.push { cls := .type "tuple_iterator", data := .fields #[.ref l, .int 0 0] }).objs.size = s.heap.objs.size + 1 := Heap.size_push ..
  have lS : S < s.heap.objs.size := Heap.lt_size hS
  have ll : l < s.heap.objs.size := Heap.lt_size ho
  have len : xs.length = items.size := by rw [← StrsAre.len_eq hi, Array.length_toList]
  have W0 := (Walks.tuple (prog := prog) (w := w) (A := A.in1.in1) (by simpa using hh) s.heap.objs.size l (Nat.ne_of_lt ll) items).toS
  rw [← len] at W0
  have nf : S ∉ [s.heap.objs.size, l] := fun m => by
    rcases List.mem_cons.mp m with e | e
    · exact absurd (e ▸ lS) (Nat.lt_irrefl _)
    · exact hne (List.mem_singleton.mp e).symm
  have M0 : Met prog w S xs 0 (s.heap.push { cls := .type "tuple_iterator", data := .fields #[.ref l, .int 0 0] }) :=
    PyProof.Rows.SetOf_congr ((PyProof.Rows.setObjOf_fresh (knd := PySem.strKind prog w) led).setOf (Heap.get?_push_of_some _ hS) (by unfold scanBound; omega)) (fun _ => rfl) rfl
  refine rounds ⟨W0, fun i v hv => ?_⟩ nf hn xs.length 0 { s with heap := s.heap.push { cls := .type "tuple_iterator", data := .fields #[.ref l, .int 0 0] } } (Nat.zero_add _) ⟨⟨_, Heap.get?_push_size _ rfl, rfl, rfl⟩, ht.push _⟩ M0 fun s2 mv m => ?_
  · obtain ⟨t, e⟩ := strs_at hi i v (by rw [Array.getElem?_toList]; exact hv)
    have hx : i < xs.length := by rw [len]; exact (Array.getElem?_eq_some_iff.mp hv).1
    exact ⟨xs[i], t, List.getElem?_eq_getElem hx, by rw [e, List.getD_eq_getElem?_getD, List.getElem?_eq_getElem hx]; rfl⟩
  · obtain ⟨h2, g2, d2, t2, o2⟩ := s2
    cases (show g2 = s.gens from mv.gens)
    cases (show d2 = s.drawn from mv.drawn)
    cases (show o2 = s.os from mv.os)
    refine wpAny_pure (wpAny_pure (fin h2 t2 m fun b u nb e => mv.heap b u (fun q => ?_) (Heap.get?_push_of_some _ e)))
    rcases List.mem_cons.mp q with q | q
    · exact nb q
    · have := Heap.lt_size e
      rw [List.mem_singleton.mp q] at this
      exact Nat.lt_irrefl _ this
end
section
variable {prog : Program} {w : World} {A : Around} {E : Value → Shared → Prop} {s : Shared}
/-- set(x), over what the new set begins with -/
theorem set_by {x : Value} {Q : Value → Shared → Prop} (go : ∀ led : Bool, wpAny (model prog w) A.in1.in1 (Builtin.«set.__init__» ⟨[.ref s.heap.objs.size, x], []⟩)
      (fun fin s' => match fin with | .done f => wants (fun r s2 => r = .none ∧ s2.TypeIs (.ref s.heap.objs.size) "set" ∧ Q (.ref s.heap.objs.size) s2) E (.ok f) s' | .again c => c.quiet = true ∧ codeAny (model prog w) A.in1 c (wants (fun r s2 => r = .none ∧ s2.TypeIs (.ref s.heap.objs.size) "set" ∧ Q (.ref s.heap.objs.size) s2) E) s')
      (fun e s' => wants (fun r s2 => r = .none ∧ s2.TypeIs (.ref s.heap.objs.size) "set" ∧ Q (.ref s.heap.objs.size) s2) E (.error e) s')
      { s with heap := s.heap.push { cls := .type "set", dict := none, data := .set #[] 0 (.fresh 0 0 led) } }) :
    wpAny (model prog w) A (call (.type "set") [x]) Q E s := by
  have k1 := PySem.F.called_set
  obtain ⟨c, tl, k2⟩ := k1.mro
  have k3 := k1.made
  have k4 := k1.sub
  have k5 := k1.notType
  have k6 := k1.canCreate
  have k7 := PySem.F.typeCall_set_1 x
  refine wpAny_call (codeAny_of_tree (wpAny_pure ⟨Code.quiet_builtin _ (by decide +kernel), codeAny_builtin PySem.F.entry_type_call ?_⟩))
  rw [Around.under_plain (weight_type_call_type "set" [x] []) rfl]
  repeat (any_goals (first | assumption | wp_step))
  refine codeAny_mono (code_set_new_1 x (E := E) (Q₁ := fun y s1 => ∃ led : Bool, y = .ref s.heap.objs.size ∧ s1 = { s with heap := s.heap.push { cls := .type "set", dict := none, data := .set #[] 0 (.fresh 0 0 led) } }) fun led => ⟨led, rfl, rfl⟩) fun r s1 hr => ?_
  match r, hr with
  | .error e, hr => exact hr
  | .ok (.ret y), hr =>
    obtain ⟨led, rfl, rfl⟩ := hr
    have k8 := k1.init.lookup
    have k9 := k1.init.bind (.ref s.heap.objs.size)
    have ty : Shared.TypeIs { s with heap := s.heap.push { cls := .type "set", dict := none, data := .set #[] 0 (.fresh 0 0 led) } } (.ref s.heap.objs.size) "set" := ⟨_, Heap.get?_push_size _ rfl, rfl⟩
    repeat (any_goals (first | assumption | wp_step))
    refine codeAny_mono (codeAny_call_builtin k1.init.plain PySem.F.entry_set_init (check_set_init_1 ty (go led))) fun r2 s2 h2 => ?_
    match r2, h2 with
    | .error e, h2 => exact h2
    | .ok (.ret y), h2 =>
      obtain ⟨rfl, ty2, q⟩ := h2
      repeat (any_goals (first | assumption | wp_step))
/-- set(t) of a tuple of texts -/
theorem set_of_texts {l : Addr} {items : Array Value} {xs : List Str} {Q : Value → Shared → Prop} (hh : A.handled = none) (hl : s.heap.IsTuple l items) (hi : PyProof.Rows.StrsAre items.toList xs) (hn : xs.length < 4000)
    (q : ∀ (h' : Heap) (tk : Nat), Met prog w s.heap.objs.size xs xs.length h' → (∀ b u, s.heap.get? b = some u → h'.get? b = some u) → Q (.ref s.heap.objs.size) { s with heap := h', toks := tk }) :
    wpAny (model prog w) A (call (.type "set") [.ref l]) Q E s := by
  obtain ⟨o, ho, hc, hd⟩ := hl
  have lt := Heap.lt_size ho
  refine set_by fun led => init_texts (A := A.in1) (by simpa using hh) (Heap.get?_push_size _ rfl) (Heap.get?_push_of_some _ ho) hc hd (Nat.ne_of_lt lt) hi hn fun h' tk m k => ⟨rfl, ?_, q h' tk m fun b u e => k b u (Nat.ne_of_lt (Heap.lt_size e)) (Heap.get?_push_of_some _ e)⟩
  exact PySem.Heap.SetOf.typeIs (s := { s with heap := h', toks := tk }) m
end
end TdSet
namespace Td
open PySem PySem.Spec PyProof.Rows L2
section
variable {X : Cx}
/-- len(set(t)), t a tuple of texts -/
def tLenSetT (K : PySem.W.Frag) (t : TE) : TE := fun σ H Q => t σ H fun x H1 => ∃ (l : Addr) (xs : List Str), x = .ref l ∧ SqT K H1 l (xs.map V.str) ∧ xs.length < 4000 ∧ Q (.int (TdSet.dcnt xs xs.length : Nat)) H1
theorem pe_lenSetT {a : Expr} {t : TE} {p p2 q pos : Pos} (hc : X.calm = true) (g1 : Gl X "len") (m1 : X.mg "len" = none) (g2 : Gl X "set") (m2 : X.mg "set" = none) (ha : PE X a t)
    (na : starEach [a] X.env = (false, eval a X.env) :: starEach [] X.env := by rfl) (no : starEach [.Call (.Name "set" p2) [a] [] q] X.env = (false, eval (.Call (.Name "set" p2) [a] [] q) X.env) :: starEach [] X.env := by rfl) :
    PE X (.Call (.Name "len" p) [.Call (.Name "set" p2) [a] [] q] [] pos) (tLenSetT X.K t) := by
  refine ⟨fun pins s σ H Q I h => wpAny_Call_Name_kw (ld_blt I g1 m1 boot_len (PyProof.Rows.callWith_builtin1 (PyProof.Rows.args_cons (wpAny_Call_Name_kw (ld_blt I g2 m2 boot_set (PyProof.Rows.callWith_type1 (PyProof.Rows.args_cons (thn (ha.run pins s σ H _ I h) fun v s1 ⟨x, H1, I1, r1, l, xs, ex, hq, hn, k⟩ => PyProof.Rows.args_nil ?_) na) na rfl))) no) no rfl))⟩
  subst ex
  cases r1
  obtain ⟨us, r, tp, _⟩ := I1.tuple hq
  refine TdSet.set_of_texts (I1.ok.hd hc) tp (xs := xs) (by simpa using strsAre_of r) hn fun h' tk m kp => PyProof.Rows.args_nil ?_
  have J : Inv X pins σ H1 { s1 with heap := h', toks := tk } := I1.kept kp
  have dl := TdSet.dcnt_le xs xs.length
  obtain ⟨o, es, ep, tb, e1, e2, e3, _, _, _, e7, e8⟩ := m
  exact call_len_set e1 e2 e3 e7 (by rw [e8]; omega) ⟨.int (TdSet.dcnt xs xs.length : Nat), H1, J.tok _, ⟨_, by rw [e8]⟩, k⟩
end
/-- xs[i] op= e on a list -/
def rGetL : V → V → Hp → VK → Prop := fun o i H Q => ∃ p xs k v, o = .ref p ∧ i = .int k ∧ H p = some (.lst xs) ∧ atI xs k = some v ∧ Q v H
end Td
namespace Td
open PySem PySem.Spec PyProof.Rows L2
section
variable {X : Cx}
/-! ### a written dict, asked by .get -/
def KTab (K : PySem.W.Frag) (w : World) (a : Addr) : Prop :=
  ∃ es n, K.lookup a = some ⟨.type "dict", none, .dict es n, #[]⟩ ∧ PySem.W.KeysLit w.params es.toList ∧ (a == sysModules) = false
def tKGet (K : PySem.W.Frag) (w : World) (td ty : TE) : TE := fun σ H Q => td σ H fun x H1 => ∃ a, x = .ref a ∧ KTab K w a ∧
  ty σ H1 fun y H2 => ∃ z, y = .str z ∧ ((∃ v, KDct K w a z v ∧ Q v H2) ∨ (PySem.W.nsIn K a z = some none ∧ Q .non H2))
theorem pe_kget {o e : Expr} {td ty : TE} {apos cpos : Pos} (ho : PE X o td) (he : PE X e ty) (m : M1 X o "get" apos e cpos) :
    PE X (.Call (.Attribute o "get" apos) [e] [] cpos) (tKGet X.K X.w td ty) := by
  refine ⟨fun pins s σ H Q I h => ?_⟩
  refine wpAny_Call_method m.base m.few m.line PySem.F.plainAttrs_dict PySem.F.slot_dict_get PySem.F.type_dict_get
    (thn (ho.run pins s σ H _ I h) fun u s1 ⟨x, H1, I1, rx, a, ex, ⟨es, n, hl, hk, low⟩, q1⟩ => ?_)
  subst ex
  obtain rfl : u = Value.ref a := rx
  have hm := PySem.W.mapOf_K (prog := X.prog) (w := X.w) I1.kIn hl hk
  refine ⟨hm.typeIs, hm.noDict, ?_⟩
  rw [m.trees]
  refine Calls.callWith_builtin rfl (Calls.evalArgs_plain (Calls.spliced_cons
    (thn (he.run pins s1 σ H1 _ I1 q1) fun iv s2 ⟨y, H2, I2, ry, z, ey, q2⟩ => Calls.spliced_nil ?_)))
  subst ey
  obtain ⟨t, rfl⟩ := ry
  have hm2 := PySem.W.mapOf_K (prog := X.prog) (w := X.w) I2.kIn hl hk
  rcases q2 with ⟨v, ⟨es', n', u0, hl', hk', e0, ru⟩, q⟩ | ⟨e0, q⟩
  · refine call_meetsIn PySem.F.slot_dict_get hm2.typeIs PySem.F.entry_dict_get (PySem.F.args_dict_get_2 _ _)
      (meets_dict_get (strKind X.prog X.w) a (strKind_is X.prog X.w z t) low) ⟨_, hm2, ?_⟩
    have := PySem.W.find_K hl e0
    rw [this]
    exact ⟨v, H2, I2.tok _, ru, q⟩
  · refine call_meetsIn PySem.F.slot_dict_get hm2.typeIs PySem.F.entry_dict_get (PySem.F.args_dict_get_2 _ _)
      (meets_dict_get (strKind X.prog X.w) a (strKind_is X.prog X.w z t) low) ⟨_, hm2, ?_⟩
    have := PySem.W.find_K hl e0
    rw [this]
    exact ⟨.non, H2, I2.tok _, rfl, q⟩

/-! ### xs[i] of a list, by values -/
def rGetLi (K : PySem.W.Frag) : V → V → Hp → VK → Prop := fun o i H Q => ∃ (p : Addr) (xs : List V) (k : Nat) (v : V), o = .ref p ∧ i = .int (k : Nat) ∧ SqL K H p xs ∧ xs[k]? = some v ∧ Q v H
theorem get_list : PGet X (rGetLi X.K) := by
  intro pins s σ H o i ov iv Q I ro ri h
  obtain ⟨p, xs, k, v, rfl, rfl, hp, hv, q⟩ := h
  obtain ⟨its, r, pl, hz⟩ := I.list hp
  obtain rfl : ov = Value.ref p := ro
  obtain ⟨t, rfl⟩ := ri
  obtain ⟨w, ew, rw'⟩ := r.get hv
  have hn := line63
  have hk := (List.getElem?_eq_some_iff.mp hv).1
  have fin : EP X pins σ Q w s := ⟨v, H, I, rw', q⟩
  exact wpAny_getItem_list pl.isList (by omega) (by omega) (by rw [Int.toNat_natCast, List.getElem?_toArray]; exact ew) fin
end
/-! ### enumerate of a tuple -/
def IteT (K : PySem.W.Frag) (a : Addr) : It :=
  ⟨fun i H => ∃ (xs : List V) (x : V), SqT K H a xs ∧ xs[i]? = some x,
   fun i H v H' => ∃ T x, v = .ref T ∧ H T = none ∧ H' = upd H T (.tup [.int (i : Nat), x]) ∧ ∀ xs, SqT K H a xs → xs[i]? = some x,
   fun i H => ∃ xs : List V, SqT K H a xs ∧ xs.length = i⟩
theorem turn_enumT {P : Program} {w : World} {K : PySem.W.Frag} {elts : List Expr} {kk : Nat} {tpos : Pos} (a e it : Addr) :
    Turn P w K (.Tuple elts kk tpos) (IteT K a) [e, it] e
      (fun i h => (∃ old, IsEnum h e it ((i : Nat) : Int) old) ∧ h.IsTupleIter it a i ∧ e ≠ it) where
  mem := by simp
  obj := fun i h st b hb => by
    obtain ⟨⟨old, he⟩, ⟨o, ho, hc, hd⟩, _⟩ := st
    have e' : b = e ∨ b = it := by simpa using hb
    rcases e' with z | z
    · subst z; exact ⟨_, he, fun v q => nomatch q⟩
    · subst z; exact ⟨o, ho, fun v q => by rw [hd] at q; cases q⟩
  keep := fun i h h' st k => by
    obtain ⟨⟨old, he⟩, hi, hne⟩ := st
    exact ⟨⟨old, k e (by simp) _ he⟩, hi.at fun o q => k it (by simp) o q, hne⟩
  item := by
    intro X hP hw hK hc i pins s σ H E I hf st hg
    subst hP hw hK
    obtain ⟨⟨old, he⟩, hit, hne⟩ := st
    obtain ⟨xs, x, hq, hx⟩ := hg
    obtain ⟨its, rv, p, hz⟩ := I.tuple hq
    obtain ⟨u, hu, ru⟩ := rv.get hx
    have hel : e < s.heap.objs.size := Heap.lt_size he
    have hil : it < s.heap.objs.size := by obtain ⟨_, q, _⟩ := hit; exact Heap.lt_size q
    have hai : a ≠ it := fun z => by
      obtain ⟨o1, g1, c1, _⟩ := hit
      obtain ⟨o2, g2, c2, _⟩ := p
      rw [z, g1] at g2
      cases g2
      rw [c1] at c2
      exact absurd c2 (by decide)
    have hae : a ≠ e := fun z => by
      obtain ⟨o2, g2, c2, _⟩ := p
      rw [z, show s.heap.get? e = some _ from he] at g2
      cases g2
      change Value.type "enumerate" = Value.type "tuple" at c2
      exact absurd c2 (by decide)
    have hh : X.A.in1.handled = none := by simp [I.ok.hd hc]
    have D := Draws.tuple (prog := X.prog) (w := X.w) hh it a hai its.toArray
    have hlt : i < its.toArray.size := by
      rw [List.size_toArray, ← rv.length]
      exact (List.getElem?_eq_some_iff.mp hx).1
    refine wpAny_pyNext_enum_itemD D he ⟨hit, p⟩ hlt hne (by simp [hne, Ne.symm hae]) fun y h' tk hy ho hit' hT hsz hk => ?_
    have hyu : y = u := by
      have : its.toArray[i]? = some y := hy
      rw [List.getElem?_toArray, hu] at this
      exact (Option.some.inj this).symm
    subst hyu
    refine ⟨_, rfl, wpAny_letOwnedTupleGo_enum (s := { s with heap := h', toks := tk + 1 }) ho fun h2 he2 sb => ?_⟩
    have hT2 : h2.get? s.heap.objs.size = some { cls := .type "tuple", data := .seq #[.int i tk, y] } :=
      (sb.2 _ (Nat.ne_of_gt hel)).trans hT
    have new : ObjOk X.prog X.w (upd H s.heap.objs.size (.tup [.int (i : Nat), x])) h2 s.heap.objs.size (.tup [.int (i : Nat), x]) :=
      ⟨by show 2 ≤ sizeLine; decide, [.int i tk, y], .cons ⟨_, rfl⟩ (.cons ru .nil), ⟨_, hT2, rfl, _, rfl⟩⟩
    have I1 : L2.Inv X pins σ (upd H s.heap.objs.size (.tup [.int (i : Nat), x])) { s with heap := h2, toks := tk + 1 } :=
      I.turnedNew (ch := [e, it]) (fun b ob hb q => (sb.2 b (fun z => hb (by simp [z]))).trans
        (hk b ob (fun z => hb (by simp [z])) (fun z => hb (by simp [z])) q)) hf (Nat.le_refl _) new
    refine ⟨.ref s.heap.objs.size, _, I1, rfl, ⟨_, x, rfl, I.hok.fresh (Nat.le_refl _), rfl, fun ys hy => by rw [I.tuple_inj hy hq]; exact hx⟩,
      ⟨⟨y, ?_⟩, hit'.1.at fun o q => (sb.2 it (Ne.symm hne)).trans q, hne⟩, fun b hb => ?_⟩
    · have e1 : ((i + 1 : Nat) : Int) = (i : Int) + 1 := by omega
      rw [e1]; exact he2
    · have hb' : b < s.heap.objs.size := by
        have e' : b = e ∨ b = it := by simpa using hb
        rcases e' with z | z
        · subst z; exact hel
        · subst z; exact hil
      rw [upd_ne (Nat.ne_of_lt hb')]
      exact (hf b hb).1
  done := by
    intro X hP hw hK hc i pins s σ H E I hf st hg
    subst hP hw hK
    obtain ⟨⟨old, he⟩, hit, hne⟩ := st
    obtain ⟨xs, hq, hx⟩ := hg
    obtain ⟨its, rv, p, hz⟩ := I.tuple hq
    obtain ⟨f0, f1, f2, f3, f4, f5⟩ := hf it (by simp)
    have hai : a ≠ it := fun z => by
      obtain ⟨o1, g1, c1, _⟩ := hit
      obtain ⟨o2, g2, c2, _⟩ := p
      rw [z, g1] at g2
      cases g2
      rw [c1] at c2
      exact absurd c2 (by decide)
    have hh : X.A.in1.handled = none := by simp [I.ok.hd hc]
    have D := Draws.tuple (prog := X.prog) (w := X.w) hh it a hai its.toArray
    have hn : its.toArray.size = i := by rw [List.size_toArray, ← rv.length]; exact hx
    refine wpAny_pyNext_enum_endD D he ⟨by rw [hn]; exact hit, p⟩ fun h' eb => ⟨rfl, I.turned (t' := s.toks) (fun b o hb q => eb b o hb q) f0 f1 f3 f4 f5⟩
  self := fun A i s Q E st h => let ⟨⟨_, he⟩, _⟩ := st; wpAny_pyIter_enum he h

/-- enumerate(t) made -/
theorem meets_enumT {v : Value} {o : Obj} {H : Heap → Prop} (B : Begins v o H) :
    Meets (Builtin.«enumerate.__new__» ⟨[.type "enumerate", v], []⟩) (fun _ R s => H s.heap ∧
      R (.ok (.ret (.ref (s.heap.push o).objs.size)))
        { s with heap := (s.heap.push o).push { cls := .type "enumerate", data := .fields #[.none, .bool false, .ref s.heap.objs.size, rawInt 0, .none, .none] } }) :=
  .of_wp fun prog w A R s h => by
    obtain ⟨hp, g, d, tk, os⟩ := s; obtain ⟨h1, h⟩ := h
    have hsub := sub_enumerate
    have q1 : ∀ {A' : Around} {E : Value → Shared → Prop} {Q : Value → Shared → Prop}, Q (.ref hp.objs.size) ⟨hp.push o, g, d, tk, os⟩ →
        wpAny (model prog w) A' (pyIter v) Q E ⟨hp, g, d, tk, os⟩ := fun q => B.iter prog w _ _ ⟨hp, g, d, tk, os⟩ _ h1 q
    wp_walk using q1
    refine wpAny_stack_any fun st => wpAny_pure ?_
    split
    · rename_i c _ _ _ _ _
      cases (c == Value.type "enumerate")
      · wp_walk using q1
        exact ⟨_, rfl, h⟩
      · wp_walk using q1
        exact ⟨_, rfl, h⟩
    · wp_walk using q1
      exact ⟨_, rfl, h⟩
def iEnumT (K : PySem.W.Frag) (ta : TA) : TI := fun σ H R => ta σ H fun vs H1 => ∃ a xs, vs = [.ref a] ∧ SqT K H1 a xs ∧ R (IteT K a) H1
theorem pi_enumT {X : Cx} {e : Expr} {ta : TA} {p pos tpos : Pos} {elts : List Expr} {kk : Nat} (hg : Gl X "enumerate") (hm : X.mg "enumerate" = none)
    (ha : PA X [e] ta) (hs : starEach [e] X.env = [(false, eval e X.env)] := by rfl) :
    PI X (.Tuple elts kk tpos) (.Call (.Name "enumerate" p) [e] [] pos) (iEnumT X.K ta) := by
  refine ⟨fun pins s σ H R I h => ?_⟩
  refine Call_ (ld_blt I hg hm boot_enumerate (PyProof.Rows.callWith_type1 (thn (ha.run pos pins s σ H _ I h) fun us s1 ⟨vs, H1, I1, r1, q1⟩ => ?_) hs rfl))
  obtain ⟨a, xs, ex, hq, q⟩ := q1
  subst ex
  cases r1 with
  | cons r rr =>
    cases rr
    cases r
    obtain ⟨its, rv, p', hz⟩ := I1.tuple hq
    refine callType_new F.called_enumerate (by decide) (F.typeCall_enumerate_1 _) (F.newCall_enumerate_1 _) (fun obj => F.args_object_init_2 obj _)
      F.entry_enumerate_new (meets_enumT (begins_tuple a its.toArray)) ⟨p', ?_⟩
    have z1 : (s1.heap.push { cls := .type "tuple_iterator", data := .fields #[.ref a, .int 0 0] }).objs.size = s1.heap.objs.size + 1 := Heap.size_push ..
    show _ ∧ _
    rw [z1]
    have he : IsEnum ((s1.heap.push { cls := .type "tuple_iterator", data := .fields #[.ref a, .int 0 0] }).push
        { cls := .type "enumerate", data := .fields #[.none, .bool false, .ref s1.heap.objs.size, rawInt 0, .none, .none] })
        (s1.heap.objs.size + 1) s1.heap.objs.size 0 .none := by
      have := Heap.get?_push_size (s1.heap.push { cls := .type "tuple_iterator", data := .fields #[.ref a, .int 0 0] })
        (o := { cls := .type "enumerate", data := .fields #[.none, .bool false, .ref s1.heap.objs.size, rawInt 0, .none, .none] }) rfl
      rw [z1] at this; exact this
    refine ⟨⟨_, he, rfl⟩, ?_⟩
    refine wpAny_pyIter_enum he ?_
    have I2 : L2.Inv X pins σ H1 ⟨(s1.heap.push { cls := .type "tuple_iterator", data := .fields #[.ref a, .int 0 0] }).push { cls := .type "enumerate", data := .fields #[.none, .bool false, .ref s1.heap.objs.size, rawInt 0, .none, .none] }, s1.gens, s1.drawn, s1.toks, s1.os⟩ :=
      I1.kept (t' := s1.toks) fun b o x => Heap.get?_push_of_some _ (Heap.get?_push_of_some _ x)
    refine ⟨s1.heap.objs.size + 1, [s1.heap.objs.size + 1, s1.heap.objs.size], _, _, H1, rfl, I2, turn_enumT a (s1.heap.objs.size + 1) s1.heap.objs.size,
      ⟨⟨.none, he⟩, ⟨_, Heap.get?_push_of_some _ (Heap.get?_push_size _ rfl), rfl, rfl⟩, Nat.succ_ne_self _⟩, fun b hb => ?_, q⟩
    have e' : b = s1.heap.objs.size + 1 ∨ b = s1.heap.objs.size := by simpa using hb
    have hle : s1.heap.objs.size ≤ b := by
      rcases e' with z | z
      · rw [z]; exact Nat.le_succ _
      · rw [z]; exact Nat.le_refl _
    exact I1.fpOk hle (I1.hok.fresh hle)
end Td
/-! Data: what stays, data in the heap, names, rows. -/
namespace Td
open PySem PySem.Spec PyProof.Rows L2

/-! ### what stays while the object at st changes -/
def Keep (st : Addr) (H H' : Hp) : Prop := ∀ b o, b ≠ st → H b = some o → H' b = some o
theorem Keep.refl (st : Addr) (H : Hp) : Keep st H H := fun _ _ _ h => h
theorem Keep.trans {st : Addr} {H H1 H2 : Hp} (a : Keep st H H1) (b : Keep st H1 H2) : Keep st H H2 := fun c o n h => b c o n (a c o n h)
theorem Keep.upd {st : Addr} {H : Hp} {o : HO} : Keep st H (upd H st o) := fun b u n h => by rw [upd_ne n]; exact h
theorem Keep.new {st p : Addr} {H : Hp} {o : HO} (h : H p = none) : Keep st H (L2.upd H p o) := fun b u n e => by
  rw [upd_ne (ne_of_none e h)]; exact e
theorem Keep.free {st p : Addr} {H H' : Hp} (k : Keep st H H') (n : p ≠ st) (h : H' p = none) : H p = none := by
  cases e : H p with
  | none => rfl
  | some o => rw [k p o n e] at h; cases h
/-- an object that was not there at first is changed -/
theorem Keep.own {st p : Addr} {H H' : Hp} {o : HO} (k : Keep st H H') (h : H p = none) : Keep st H (L2.upd H' p o) := fun b u nb e => by
  rw [upd_ne (ne_of_none e h)]; exact k b u nb e
theorem Same.new {H : Hp} {p : Addr} (h : H p = none) (o : HO) : Same H (upd H p o) := fun b u e => by
  rw [upd_ne (ne_of_none e h)]; exact e
theorem Same.keep {H H' : Hp} (h : Same H H') (st : Addr) : Keep st H H' := fun b o _ e => h b o e

/-! ### immutable and mutable data, away from st -/
section
variable {K : PySem.W.Frag} {H H' : Hp} {a : Addr} {xs : List V}
theorem SqT.same (s : Same H H') (h : SqT K H a xs) : SqT K H' a xs := by
  rcases h with (h | ⟨o, h⟩) | h
  · exact .inl (.inl (s _ _ h))
  · exact .inl (.inr ⟨o, s _ _ h⟩)
  · exact .inr h
theorem SqL.same (s : Same H H') (h : SqL K H a xs) : SqL K H' a xs := s.seq h
theorem SqT.keep {st : Addr} (s : Keep st H H') (n : a ≠ st) (h : SqT K H a xs) : SqT K H' a xs := by
  rcases h with (h | ⟨o, h⟩) | h
  · exact .inl (.inl (s _ _ n h))
  · exact .inl (.inr ⟨o, s _ _ n h⟩)
  · exact .inr h
theorem SqL.keep {st : Addr} (s : Keep st H H') (n : a ≠ st) (h : SqL K H a xs) : SqL K H' a xs := by
  rcases h with (h | ⟨o, h⟩) | h
  · exact .inl (.inl (s _ _ n h))
  · exact .inl (.inr ⟨o, s _ _ n h⟩)
  · exact .inr h
end
mutual
/-- data at a value, none of its objects at st -/
inductive Dn (K : PySem.W.Frag) (st : Addr) (H : Hp) : V → PyData → Prop
  | non : Dn K st H .non .none
  | bl (b : Bool) : Dn K st H (.bl b) (.bool b)
  | int (i : Int) : Dn K st H (.int i) (.int i)
  | str (x : Str) : Dn K st H (.str x) (.str x)
  | lst {a : Addr} {xs : List V} {ds : List PyData} : a ≠ st → SqL K H a xs → DnAll K st H xs ds → Dn K st H (.ref a) (.list ds)
  | tup {a : Addr} {xs : List V} {ds : List PyData} : a ≠ st → SqT K H a xs → DnAll K st H xs ds → Dn K st H (.ref a) (.tuple ds)
inductive DnAll (K : PySem.W.Frag) (st : Addr) (H : Hp) : List V → List PyData → Prop
  | nil : DnAll K st H [] []
  | cons {v : V} {vs : List V} {d : PyData} {ds : List PyData} : Dn K st H v d → DnAll K st H vs ds → DnAll K st H (v :: vs) (d :: ds)
end
section
variable {K : PySem.W.Frag} {H H' : Hp} {st : Addr}
mutual
theorem Dn.keep (s : Keep st H H') : ∀ {v : V} {d : PyData}, Dn K st H v d → Dn K st H' v d
  | _, _, .non => .non
  | _, _, .bl b => .bl b
  | _, _, .int b => .int b
  | _, _, .str b => .str b
  | _, _, .lst n q r => .lst n (SqL.keep s n q) (DnAll.keep s r)
  | _, _, .tup n q r => .tup n (SqT.keep s n q) (DnAll.keep s r)
theorem DnAll.keep (s : Keep st H H') : ∀ {v : List V} {d : List PyData}, DnAll K st H v d → DnAll K st H' v d
  | _, _, .nil => .nil
  | _, _, .cons a b => .cons (Dn.keep s a) (DnAll.keep s b)
end
mutual
theorem Dn.dp : ∀ {v : V} {d : PyData}, Dn K st H v d → Dp K H v d
  | _, _, .non => .non
  | _, _, .bl b => .bl b
  | _, _, .int b => .int b
  | _, _, .str b => .str b
  | _, _, .lst n q r => .lst q (DnAll.dp r)
  | _, _, .tup n q r => .tup q (DnAll.dp r)
theorem DnAll.dp : ∀ {v : List V} {d : List PyData}, DnAll K st H v d → DpAll K H v d
  | _, _, .nil => .nil
  | _, _, .cons a b => .cons (Dn.dp a) (DnAll.dp b)
end
mutual
theorem Dp.same (s : Same H H') : ∀ {v : V} {d : PyData}, Dp K H v d → Dp K H' v d
  | _, _, .non => .non
  | _, _, .bl b => .bl b
  | _, _, .int b => .int b
  | _, _, .str b => .str b
  | _, _, .lst q r => .lst (SqL.same s q) (DpAll.same s r)
  | _, _, .tup q r => .tup (SqT.same s q) (DpAll.same s r)
theorem DpAll.same (s : Same H H') : ∀ {v : List V} {d : List PyData}, DpAll K H v d → DpAll K H' v d
  | _, _, .nil => .nil
  | _, _, .cons a b => .cons (Dp.same s a) (DpAll.same s b)
end
theorem DpAll.length : ∀ {vs : List V} {ds : List PyData}, DpAll K H vs ds → vs.length = ds.length
  | _, _, .nil => rfl
  | _, _, .cons _ r => by rw [List.length_cons, List.length_cons, DpAll.length r]
theorem DpAll.get : ∀ {vs : List V} {ds : List PyData} {i : Nat} {v : V}, DpAll K H vs ds → vs[i]? = some v → ∃ d, ds[i]? = some d ∧ Dp K H v d
  | _, _, _, _, .nil, h => by simp at h
  | _, _, 0, _, .cons a _, h => by simp at h; subst h; exact ⟨_, rfl, a⟩
  | _, _, i + 1, v, .cons _ r, h => by
    obtain ⟨d, h1, h2⟩ := DpAll.get (i := i) (v := v) r (by simpa using h)
    exact ⟨d, by simpa using h1, h2⟩
theorem DpAll.append : ∀ {vs ws : List V} {ds es : List PyData}, DpAll K H vs ds → DpAll K H ws es → DpAll K H (vs ++ ws) (ds ++ es)
  | _, _, _, _, .nil, h => h
  | _, _, _, _, .cons a r, h => .cons a (DpAll.append r h)
theorem DpAll.strs (zs : List Str) : DpAll K H (zs.map V.str) (zs.map PyData.str) := by
  induction zs with
  | nil => exact .nil
  | cons z r ih => exact .cons (.str z) ih
theorem DnAll.strs (zs : List Str) : DnAll K st H (zs.map V.str) (zs.map PyData.str) := by
  induction zs with
  | nil => exact .nil
  | cons z r ih => exact .cons (.str z) ih
theorem DnAll.append : ∀ {vs ws : List V} {ds es : List PyData}, DnAll K st H vs ds → DnAll K st H ws es → DnAll K st H (vs ++ ws) (ds ++ es)
  | _, _, _, _, .nil, h => h
  | _, _, _, _, .cons a r, h => .cons a (DnAll.append r h)
theorem DnAll.length : ∀ {vs : List V} {ds : List PyData}, DnAll K st H vs ds → vs.length = ds.length
  | _, _, .nil => rfl
  | _, _, .cons _ r => by rw [List.length_cons, List.length_cons, DnAll.length r]
theorem DnAll.get : ∀ {vs : List V} {ds : List PyData} {i : Nat} {v : V}, DnAll K st H vs ds → vs[i]? = some v → ∃ d, ds[i]? = some d ∧ Dn K st H v d
  | _, _, _, _, .nil, h => by simp at h
  | _, _, 0, _, .cons a _, h => by simp at h; subst h; exact ⟨_, rfl, a⟩
  | _, _, i + 1, v, .cons _ r, h => by
    obtain ⟨d, h1, h2⟩ := DnAll.get (i := i) (v := v) r (by simpa using h)
    exact ⟨d, by simpa using h1, h2⟩
/-- a tuple's value -/
theorem Dp.tup_inv {v : V} {ds : List PyData} (h : Dp K H v (.tuple ds)) : ∃ a xs, v = .ref a ∧ SqT K H a xs ∧ DpAll K H xs ds := by
  cases h with
  | tup q r => exact ⟨_, _, rfl, q, r⟩
theorem Dn.tup_inv {v : V} {ds : List PyData} (h : Dn K st H v (.tuple ds)) : ∃ a xs, v = .ref a ∧ a ≠ st ∧ SqT K H a xs ∧ DnAll K st H xs ds := by
  cases h with
  | tup n q r => exact ⟨_, _, rfl, n, q, r⟩
theorem Dp.str_inv {v : V} {z : Str} (h : Dp K H v (.str z)) : v = .str z := by cases h; rfl
theorem Dn.str_inv {v : V} {z : Str} (h : Dn K st H v (.str z)) : v = .str z := by cases h; rfl
theorem DpAll.strs_inv : ∀ {vs : List V} {zs : List Str}, DpAll K H vs (zs.map PyData.str) → vs = zs.map V.str
  | vs, [], h => by cases h; rfl
  | vs, z :: zs, h => by
    cases h with
    | cons a r => cases a; rw [DpAll.strs_inv r]; rfl
theorem DnAll.strs_inv : ∀ {vs : List V} {zs : List Str}, DnAll K st H vs (zs.map PyData.str) → vs = zs.map V.str
  | vs, [], h => by cases h; rfl
  | vs, z :: zs, h => by
    cases h with
    | cons a r => cases a; rw [DnAll.strs_inv r]; rfl
theorem DnAll.of_dp_new {p : Addr} {o : HO} {vs : List V} {ds : List PyData} (h : DnAll K st H vs ds) (hp : H p = none) : DnAll K st (upd H p o) vs ds := DnAll.keep (Keep.new hp) h
theorem Dn.new {p : Addr} {o : HO} {v : V} {d : PyData} (h : Dn K st H v d) (hp : H p = none) : Dn K st (upd H p o) v d := Dn.keep (Keep.new hp) h
end

/-! ### names -/
def lowc (c : Nat) : Bool := decide (97 ≤ c) && decide (c ≤ 122)
def isNm (z : Str) : Bool := decide (1 ≤ z.length) && decide (z.length ≤ 8) && z.cps.toList.all lowc

/-! ### rows -/
inductive Row where
  | rd (pk : Bool) (c s : Str)
  | put (s w : Str)
  | give (s : Str)
  | say (s : Str)
  | wr (c s : Str)
  | ite (s w : Str) (y n : List Row)
mutual
def rowD : Row → PyData
  | .rd pk c s => .tuple [.str (if pk then "peek" else "read"), .str c, .str s]
  | .put s w => .tuple [.str "put", .str s, .str w]
  | .give s => .tuple [.str "give", .str s]
  | .say s => .tuple [.str "say", .str s]
  | .wr c s => .tuple [.str "write", .str c, .str s]
  | .ite s w y n => .tuple [.str "if", .str s, .str w, .tuple (rowsD y), .tuple (rowsD n)]
def rowsD : List Row → List PyData
  | [] => []
  | r :: rs => rowD r :: rowsD rs
end
theorem rowsD_length : ∀ rs, (rowsD rs).length = rs.length
  | [] => by unfold rowsD; rfl
  | r :: rs => by unfold rowsD; rw [List.length_cons, List.length_cons, rowsD_length rs]
theorem rowsD_append : ∀ rs ts, rowsD (rs ++ ts) = rowsD rs ++ rowsD ts
  | [], ts => by simp [rowsD]
  | r :: rs, ts => by simp only [List.cons_append, rowsD, rowsD_append rs ts]
theorem rowsD_get : ∀ {rs : List Row} {i : Nat} {r : Row}, rs[i]? = some r → (rowsD rs)[i]? = some (rowD r)
  | [], i, r, h => by simp at h
  | x :: rs, 0, r, h => by simp at h; subst h; unfold rowsD; rfl
  | x :: rs, i + 1, r, h => by
    unfold rowsD
    rw [List.getElem?_cons_succ]
    exact rowsD_get (by simpa using h)
mutual
def cnt : Row → Nat
  | .ite _ _ y n => 1 + cnts y + cnts n
  | .rd .. => 1
  | .put .. => 1
  | .give .. => 1
  | .say .. => 1
  | .wr .. => 1
def cnts : List Row → Nat
  | [] => 0
  | r :: rs => cnt r + cnts rs
end
theorem cnts_append : ∀ rs ts, cnts (rs ++ ts) = cnts rs + cnts ts
  | [], ts => by simp [cnts]
  | r :: rs, ts => by
    simp only [List.cons_append, cnts, cnts_append rs ts]; omega
/-- what the rows of a body may be and may name -/
structure Sc where
  eff : Bool
  words : List Str
  sources : List Str
  readable : List Str
mutual
def okR (S : Sc) (dep : Nat) : Row → Prop
  | .rd pk c s => (pk = true → S.eff = true) ∧ c ∈ S.readable ∧ isNm s = true
  | .put s w => isNm s = true ∧ w ∈ S.words
  | .give s => S.eff = false ∧ isNm s = true
  | .say s => S.eff = true ∧ isNm s = true
  | .wr c s => S.eff = true ∧ c ∈ S.sources ∧ isNm s = true
  | .ite s w y n => dep ≤ 3 ∧ isNm s = true ∧ w ∈ S.words ∧ okRs S (dep + 1) y ∧ okRs S (dep + 1) n
def okRs (S : Sc) (dep : Nat) : List Row → Prop
  | [] => True
  | r :: rs => okR S dep r ∧ okRs S dep rs
end
theorem okRs_append {S : Sc} {dep : Nat} : ∀ {rs ts}, okRs S dep rs → okRs S dep ts → okRs S dep (rs ++ ts)
  | [], ts, _, h => h
  | r :: rs, ts, h, h2 => by
    unfold okRs at h
    show okRs S dep (r :: (rs ++ ts))
    unfold okRs
    exact ⟨h.1, okRs_append h.2 h2⟩
theorem okRs_get {S : Sc} {dep : Nat} : ∀ {rs : List Row} {i : Nat} {r : Row}, okRs S dep rs → rs[i]? = some r → okR S dep r
  | [], i, r, _, h => by simp at h
  | x :: rs, 0, r, ok, h => by
    unfold okRs at ok
    simp at h; subst h; exact ok.1
  | x :: rs, i + 1, r, ok, h => by
    unfold okRs at ok
    exact okRs_get ok.2 (by simpa using h)
theorem okRs_one {S : Sc} {dep : Nat} {r : Row} (h : okR S dep r) : okRs S dep [r] := by
  unfold okRs
  exact ⟨h, by unfold okRs; trivial⟩
end Td
namespace Td
open PySem PySem.Spec PyProof.Rows L2
/-- an if whose test is known -/
theorem if_true_of {c : Bool} {A B : Prop} (hc : c = true) (h : A) : if c = true then A else B := by
  rw [if_pos hc]; exact h
theorem if_false_of {c : Bool} {A B : Prop} (hc : c = false) (h : B) : if c = true then A else B := by
  rw [hc, if_neg Bool.false_ne_true]; exact h
def rowTag : Row → Str
  | .rd pk _ _ => if pk then "peek" else "read"
  | .put .. => "put"
  | .give .. => "give"
  | .say .. => "say"
  | .wr .. => "write"
  | .ite .. => "if"
def isIte : Row → Bool
  | .ite .. => true
  | _ => false
theorem tag_if (r : Row) : decide (V.str (rowTag r) = V.str "if") = isIte r := by
  cases r with
  | rd pk c s =>
    cases pk
    · show decide (V.str "read" = V.str "if") = false; decide +kernel
    · show decide (V.str "peek" = V.str "if") = false; decide +kernel
  | put => show decide (V.str "put" = V.str "if") = false; decide +kernel
  | give => show decide (V.str "give" = V.str "if") = false; decide +kernel
  | say => show decide (V.str "say" = V.str "if") = false; decide +kernel
  | wr => show decide (V.str "write" = V.str "if") = false; decide +kernel
  | ite => show decide (V.str "if" = V.str "if") = true; decide +kernel
section
variable {K : PySem.W.Frag} {H H' : Hp} {st : Addr} {v : V}
/-- a row's tuple -/
theorem row_at {r : Row} (h : Dp K H v (rowD r)) : ∃ a xs, v = .ref a ∧ SqT K H a xs ∧ xs[0]? = some (.str (rowTag r)) := by
  cases r with
  | rd pk c s =>
    obtain ⟨a, xs, rfl, hS, hD⟩ := Dp.tup_inv (by unfold rowD at h; exact h)
    cases hD with | cons h1 _ => cases h1; exact ⟨a, _, rfl, hS, rfl⟩
  | put s w =>
    obtain ⟨a, xs, rfl, hS, hD⟩ := Dp.tup_inv (by unfold rowD at h; exact h)
    cases hD with | cons h1 _ => cases h1; exact ⟨a, _, rfl, hS, rfl⟩
  | give s =>
    obtain ⟨a, xs, rfl, hS, hD⟩ := Dp.tup_inv (by unfold rowD at h; exact h)
    cases hD with | cons h1 _ => cases h1; exact ⟨a, _, rfl, hS, rfl⟩
  | say s =>
    obtain ⟨a, xs, rfl, hS, hD⟩ := Dp.tup_inv (by unfold rowD at h; exact h)
    cases hD with | cons h1 _ => cases h1; exact ⟨a, _, rfl, hS, rfl⟩
  | wr c s =>
    obtain ⟨a, xs, rfl, hS, hD⟩ := Dp.tup_inv (by unfold rowD at h; exact h)
    cases hD with | cons h1 _ => cases h1; exact ⟨a, _, rfl, hS, rfl⟩
  | ite s w y n =>
    obtain ⟨a, xs, rfl, hS, hD⟩ := Dp.tup_inv (by unfold rowD at h; exact h)
    cases hD with | cons h1 _ => cases h1; exact ⟨a, _, rfl, hS, rfl⟩
theorem DpAll.inv2 {xs : List V} {d1 d2 : PyData} (h : DpAll K H xs [d1, d2]) : ∃ v1 v2, xs = [v1, v2] ∧ Dp K H v1 d1 ∧ Dp K H v2 d2 := by
  cases h with | cons a r => cases r with | cons b r => cases r; exact ⟨_, _, rfl, a, b⟩
theorem DpAll.inv3 {xs : List V} {d1 d2 d3 : PyData} (h : DpAll K H xs [d1, d2, d3]) : ∃ v1 v2 v3, xs = [v1, v2, v3] ∧ Dp K H v1 d1 ∧ Dp K H v2 d2 ∧ Dp K H v3 d3 := by
  cases h with | cons a r => obtain ⟨v2, v3, rfl, h2, h3⟩ := DpAll.inv2 r; exact ⟨_, _, _, rfl, a, h2, h3⟩
theorem DpAll.inv5 {xs : List V} {d1 d2 d3 d4 d5 : PyData} (h : DpAll K H xs [d1, d2, d3, d4, d5]) :
    ∃ v1 v2 v3 v4 v5, xs = [v1, v2, v3, v4, v5] ∧ Dp K H v1 d1 ∧ Dp K H v2 d2 ∧ Dp K H v3 d3 ∧ Dp K H v4 d4 ∧ Dp K H v5 d5 := by
  cases h with | cons a r => cases r with | cons b r => obtain ⟨v3, v4, v5, rfl, h3, h4, h5⟩ := DpAll.inv3 r; exact ⟨_, _, _, _, _, rfl, a, b, h3, h4, h5⟩
theorem rd_at {pk : Bool} {c s : Str} (h : Dp K H v (rowD (.rd pk c s))) : ∃ a, v = .ref a ∧ SqT K H a [.str (if pk then "peek" else "read"), .str c, .str s] := by
  obtain ⟨a, xs, rfl, hS, hD⟩ := Dp.tup_inv (by unfold rowD at h; exact h)
  obtain ⟨v1, v2, v3, rfl, h1, h2, h3⟩ := DpAll.inv3 hD
  cases h1; cases h2; cases h3
  exact ⟨a, rfl, hS⟩
theorem put_at {s c : Str} (h : Dp K H v (rowD (.put s c))) : ∃ a, v = .ref a ∧ SqT K H a [.str "put", .str s, .str c] := by
  obtain ⟨a, xs, rfl, hS, hD⟩ := Dp.tup_inv (by unfold rowD at h; exact h)
  obtain ⟨v1, v2, v3, rfl, h1, h2, h3⟩ := DpAll.inv3 hD
  cases h1; cases h2; cases h3
  exact ⟨a, rfl, hS⟩
theorem wr_at {s c : Str} (h : Dp K H v (rowD (.wr c s))) : ∃ a, v = .ref a ∧ SqT K H a [.str "write", .str c, .str s] := by
  obtain ⟨a, xs, rfl, hS, hD⟩ := Dp.tup_inv (by unfold rowD at h; exact h)
  obtain ⟨v1, v2, v3, rfl, h1, h2, h3⟩ := DpAll.inv3 hD
  cases h1; cases h2; cases h3
  exact ⟨a, rfl, hS⟩
theorem give_at {s : Str} (h : Dp K H v (rowD (.give s))) : ∃ a, v = .ref a ∧ SqT K H a [.str "give", .str s] := by
  obtain ⟨a, xs, rfl, hS, hD⟩ := Dp.tup_inv (by unfold rowD at h; exact h)
  obtain ⟨v1, v2, rfl, h1, h2⟩ := DpAll.inv2 hD
  cases h1; cases h2
  exact ⟨a, rfl, hS⟩
theorem say_at {s : Str} (h : Dp K H v (rowD (.say s))) : ∃ a, v = .ref a ∧ SqT K H a [.str "say", .str s] := by
  obtain ⟨a, xs, rfl, hS, hD⟩ := Dp.tup_inv (by unfold rowD at h; exact h)
  obtain ⟨v1, v2, rfl, h1, h2⟩ := DpAll.inv2 hD
  cases h1; cases h2
  exact ⟨a, rfl, hS⟩
theorem ite_at {s c : Str} {y n : List Row} (h : Dp K H v (rowD (.ite s c y n))) : ∃ a vy vn, v = .ref a ∧ SqT K H a [.str "if", .str s, .str c, vy, vn] ∧
    Dp K H vy (.tuple (rowsD y)) ∧ Dp K H vn (.tuple (rowsD n)) := by
  obtain ⟨a, xs, rfl, hS, hD⟩ := Dp.tup_inv (by unfold rowD at h; exact h)
  obtain ⟨v1, v2, v3, v4, v5, rfl, h1, h2, h3, h4, h5⟩ := DpAll.inv5 hD
  cases h1; cases h2; cases h3
  exact ⟨a, _, _, rfl, hS, h4, h5⟩
/-- the rows' items -/
theorem rows_at {rs : List Row} (h : Dp K H v (.tuple (rowsD rs))) : ∃ (a : Addr) (xs : List V), v = .ref a ∧ SqT K H a xs ∧ xs.length = rs.length ∧
    ∀ (i : Nat) (x : V), xs[i]? = some x → ∃ r, rs[i]? = some r ∧ Dp K H x (rowD r) := by
  obtain ⟨a, xs, rfl, hS, hD⟩ := Dp.tup_inv h
  have hl := DpAll.length hD
  rw [rowsD_length] at hl
  refine ⟨a, xs, rfl, hS, hl, fun i x hx => ?_⟩
  have hi : i < rs.length := by rw [← hl]; exact (List.getElem?_eq_some_iff.mp hx).1
  obtain ⟨d, h1, h2⟩ := DpAll.get hD hx
  have e := rowsD_get (List.getElem?_eq_getElem hi)
  rw [h1] at e
  exact ⟨_, List.getElem?_eq_getElem hi, by rw [← Option.some.inj e]; exact h2⟩
end
theorem take_more {α : Type} {l : List α} {i : Nat} {x : α} (h : l[i]? = some x) : l.take (i + 1) = l.take i ++ [x] := by
  have hi := (List.getElem?_eq_some_iff.mp h).1
  rw [List.take_succ_eq_append_getElem hi, (List.getElem?_eq_some_iff.mp h).2]
theorem cnts_take {rs : List Row} {i : Nat} {r : Row} (h : rs[i]? = some r) : cnts (rs.take (i + 1)) = cnts (rs.take i) + cnt r := by
  rw [take_more h, cnts_append]
  simp [cnts]
theorem cnt_pos : ∀ r, 1 ≤ cnt r
  | .ite _ _ y n => by unfold cnt; omega
  | .rd .. => by unfold cnt; exact Nat.le_refl _
  | .put .. => by unfold cnt; exact Nat.le_refl _
  | .give .. => by unfold cnt; exact Nat.le_refl _
  | .say .. => by unfold cnt; exact Nat.le_refl _
  | .wr .. => by unfold cnt; exact Nat.le_refl _
theorem cnt_flat : ∀ {r}, isIte r = false → cnt r = 1
  | .ite .., h => by cases h
  | .rd .., _ => rfl
  | .put .., _ => rfl
  | .give .., _ => rfl
  | .say .., _ => rfl
  | .wr .., _ => rfl
end Td
/-! Data of tuples, texts, numbers alone. -/
namespace Td
open PySem PySem.Spec PyProof.Rows L2
def TK (H H' : Hp) : Prop := (∀ b xs, H b = some (.tup xs) → H' b = some (.tup xs)) ∧ ∀ b o u, H b = some (.frz o u) → H' b = some (.frz o u)
theorem TK.refl (H : Hp) : TK H H := ⟨fun _ _ h => h, fun _ _ _ h => h⟩
theorem TK.trans {H H1 H2 : Hp} (a : TK H H1) (b : TK H1 H2) : TK H H2 := ⟨fun c xs h => b.1 c xs (a.1 c xs h), fun c o u h => b.2 c o u (a.2 c o u h)⟩
theorem TK.of_same {H H' : Hp} (s : Same H H') : TK H H' := ⟨fun c xs h => s c _ h, fun c o u h => s c _ h⟩
/-- what may change: no tuple, nothing locked -/
def Chg : Option HO → Prop
  | some (.tup _) => False
  | some (.frz _ _) => False
  | _ => True
theorem TK.of_keep {st : Addr} {H H' : Hp} (k : Keep st H H') (h : Chg (H st)) : TK H H' :=
  ⟨fun b xs e => k b _ (fun z => by rw [z] at e; rw [e] at h; exact h) e, fun b o u e => k b _ (fun z => by rw [z] at e; rw [e] at h; exact h) e⟩
theorem TK.upd {p : Addr} {H : Hp} {o : HO} (h : Chg (H p)) : TK H (L2.upd H p o) := TK.of_keep (st := p) Keep.upd h
mutual
inductive Tn (K : PySem.W.Frag) (H : Hp) : V → PyData → Prop
  | non : Tn K H .non .none
  | bl (b : Bool) : Tn K H (.bl b) (.bool b)
  | int (i : Int) : Tn K H (.int i) (.int i)
  | str (x : Str) : Tn K H (.str x) (.str x)
  | tup {a : Addr} {xs : List V} {ds : List PyData} : SqT K H a xs → TnAll K H xs ds → Tn K H (.ref a) (.tuple ds)
inductive TnAll (K : PySem.W.Frag) (H : Hp) : List V → List PyData → Prop
  | nil : TnAll K H [] []
  | cons {v : V} {vs : List V} {d : PyData} {ds : List PyData} : Tn K H v d → TnAll K H vs ds → TnAll K H (v :: vs) (d :: ds)
end
section
variable {K : PySem.W.Frag} {H H' : Hp} {st : Addr}
theorem SqT.tk {a : Addr} {xs : List V} (k : TK H H') (h : SqT K H a xs) : SqT K H' a xs := by
  rcases h with (h | ⟨o, h⟩) | h
  · exact .inl (.inl (k.1 _ _ h))
  · exact .inl (.inr ⟨o, k.2 _ _ _ h⟩)
  · exact .inr h
mutual
theorem Tn.keep (s : TK H H') : ∀ {v : V} {d : PyData}, Tn K H v d → Tn K H' v d
  | _, _, .non => .non
  | _, _, .bl b => .bl b
  | _, _, .int b => .int b
  | _, _, .str b => .str b
  | _, _, .tup q r => .tup (SqT.tk s q) (TnAll.keep s r)
theorem TnAll.keep (s : TK H H') : ∀ {v : List V} {d : List PyData}, TnAll K H v d → TnAll K H' v d
  | _, _, .nil => .nil
  | _, _, .cons a b => .cons (Tn.keep s a) (TnAll.keep s b)
end
mutual
theorem Tn.dp : ∀ {v : V} {d : PyData}, Tn K H v d → Dp K H v d
  | _, _, .non => .non
  | _, _, .bl b => .bl b
  | _, _, .int b => .int b
  | _, _, .str b => .str b
  | _, _, .tup q r => .tup q (TnAll.dp r)
theorem TnAll.dp : ∀ {v : List V} {d : List PyData}, TnAll K H v d → DpAll K H v d
  | _, _, .nil => .nil
  | _, _, .cons a b => .cons (Tn.dp a) (TnAll.dp b)
end
theorem TnAll.strs (zs : List Str) : TnAll K H (zs.map V.str) (zs.map PyData.str) := by
  induction zs with
  | nil => exact .nil
  | cons z r ih => exact .cons (.str z) ih
theorem TnAll.append : ∀ {vs ws : List V} {ds es : List PyData}, TnAll K H vs ds → TnAll K H ws es → TnAll K H (vs ++ ws) (ds ++ es)
  | _, _, _, _, .nil, h => h
  | _, _, _, _, .cons a r, h => .cons a (TnAll.append r h)
theorem TnAll.length : ∀ {vs : List V} {ds : List PyData}, TnAll K H vs ds → vs.length = ds.length
  | _, _, .nil => rfl
  | _, _, .cons _ r => by rw [List.length_cons, List.length_cons, TnAll.length r]
theorem TnAll.one {v : V} {d : PyData} (h : Tn K H v d) : TnAll K H [v] [d] := .cons h .nil
theorem Tn.tup_inv {v : V} {ds : List PyData} (h : Tn K H v (.tuple ds)) : ∃ (a : Addr) (xs : List V), v = .ref a ∧ SqT K H a xs ∧ TnAll K H xs ds := by
  cases h with
  | tup q r => exact ⟨_, _, rfl, q, r⟩
theorem TnAll.get : ∀ {vs : List V} {ds : List PyData} {i : Nat} {v : V}, TnAll K H vs ds → vs[i]? = some v → ∃ d, ds[i]? = some d ∧ Tn K H v d
  | _, _, _, _, .nil, h => by simp at h
  | _, _, 0, _, .cons a _, h => by simp at h; subst h; exact ⟨_, rfl, a⟩
  | _, _, i + 1, v, .cons _ r, h => by
    obtain ⟨d, h1, h2⟩ := TnAll.get (i := i) (v := v) r (by simpa using h)
    exact ⟨d, by simpa using h1, h2⟩
theorem TnAll.strs_inv : ∀ {vs : List V} {zs : List Str}, TnAll K H vs (zs.map PyData.str) → vs = zs.map V.str
  | vs, [], h => by cases h; rfl
  | vs, z :: zs, h => by
    cases h with
    | cons a r => cases a; rw [TnAll.strs_inv r]; rfl
/-- a new tuple -/
theorem Tn.new {p : Addr} {xs : List V} {ds : List PyData} (h : TnAll K H xs ds) (hp : H p = none) : Tn K (upd H p (.tup xs)) (.ref p) (.tuple ds) :=
  .tup (SqT.of upd_same) (TnAll.keep (TK.of_same (Same.new hp _)) h)
end
/-! ### an if whose second way is shown once -/
def tIfC (c : TT) (t u : TS) : TS := fun D σ H => ∃ Mid : Hp → Prop, (c σ H fun b H1 => if b = true then t D σ H1 else Mid H1) ∧ ∀ H1, Mid H1 → u D σ H1
theorem ps_ifC {X : Cx} {c : Expr} {a b : List Stmt} {tc : TT} {t u : TS} {pos : Pos} (hc : PT X c tc) (ha : PSs X a t) (hb : PSs X b u) : PS X (.If c a b pos) (tIfC tc t u) := by
  refine ⟨fun pins s σ H D I h => ?_⟩
  obtain ⟨Mid, h, hu⟩ := h
  refine wpAny_If (thn (hc.run pins s σ H _ I h) fun d s1 ⟨H1, I1, q1⟩ => ?_)
  cases d with
  | true => exact ha.run pins s1 σ H1 D I1 q1
  | false => exact hb.run pins s1 σ H1 D I1 (hu H1 q1)
end Td
/-! The parts of a program. -/
namespace Td
open PySem PySem.Spec PyProof.Rows L2
/-- a list of different names -/
structure Names (ns : List Str) : Prop where
  good : ∀ z ∈ ns, isNm z = true
  nd : ns.Nodup
structure PP where
  words : List Str
  sources : List Str
  derived : List (Str × List Row)
  effects : List (Str × List Row)
def pairD (p : Str × List Row) : PyData := .tuple [.str p.1, .tuple (rowsD p.2)]
def strsD (zs : List Str) : PyData := .tuple (zs.map PyData.str)
def pairsD (ps : List (Str × List Row)) : PyData := .tuple (ps.map pairD)
def PP.data (p : PP) : PyData := .tuple [strsD p.words, strsD p.sources, pairsD p.derived, pairsD p.effects]
def PP.names (p : PP) : List Str := p.sources ++ p.derived.map (·.1) ++ p.effects.map (·.1)
def PP.cells (p : PP) : List Str := p.sources ++ p.derived.map (·.1)
/-- not too many rows; the last of them may be a give or a say beyond the room -/
def Lim (eff : Bool) (most : Nat) (rs : List Row) : Prop := cnts rs ≤ most ∧ ∃ rs0 t, rs = rs0 ++ t ∧ cnts rs0 + 1 ≤ most ∧ (t = [] ∨ ∃ s, t = [if eff then Row.say s else Row.give s])
/-- derived bodies are right, each behind the cells ahead of it -/
def okDer (words sources : List Str) (most : Nat) : List Str → List (Str × List Row) → Prop
  | _, [] => True
  | rd, p :: r => okRs ⟨false, words, sources, rd⟩ 1 p.2 ∧ Lim false most p.2 ∧ okDer words sources most (rd ++ [p.1]) r
def okEff (words sources rd : List Str) (most : Nat) : List (Str × List Row) → Prop
  | [] => True
  | p :: r => okRs ⟨true, words, sources, rd⟩ 1 p.2 ∧ Lim true most p.2 ∧ okEff words sources rd most r
structure PP.Ok (p : PP) (most : Nat) : Prop where
  w2 : 2 ≤ p.words.length
  w4 : p.words.length ≤ 4
  s1 : 1 ≤ p.sources.length
  s4 : p.sources.length ≤ 4
  d6 : p.derived.length ≤ 6
  e4 : p.effects.length ≤ 4
  wn : Names p.words
  nn : Names p.names
  der : okDer p.words p.sources most p.sources p.derived
  eff : okEff p.words p.sources p.cells most p.effects
theorem okDer_snoc {words sources : List Str} {most : Nat} : ∀ {ps : List (Str × List Row)} {rd : List Str} {p : Str × List Row}, okDer words sources most rd ps →
    okRs ⟨false, words, sources, rd ++ ps.map (·.1)⟩ 1 p.2 → Lim false most p.2 → okDer words sources most rd (ps ++ [p])
  | [], rd, p, _, h1, h2 => by
    show okDer words sources most rd [p]
    unfold okDer
    exact ⟨by simpa using h1, h2, by unfold okDer; trivial⟩
  | q :: ps, rd, p, h, h1, h2 => by
    show okDer words sources most rd (q :: (ps ++ [p]))
    unfold okDer at h ⊢
    refine ⟨h.1, h.2.1, okDer_snoc h.2.2 ?_ h2⟩
    simpa using h1
theorem okEff_snoc {words sources rd : List Str} {most : Nat} : ∀ {ps : List (Str × List Row)} {p : Str × List Row}, okEff words sources rd most ps →
    okRs ⟨true, words, sources, rd⟩ 1 p.2 → Lim true most p.2 → okEff words sources rd most (ps ++ [p])
  | [], p, _, h1, h2 => by
    show okEff words sources rd most [p]
    unfold okEff
    exact ⟨h1, h2, by unfold okEff; trivial⟩
  | q :: ps, p, h, h1, h2 => by
    show okEff words sources rd most (q :: (ps ++ [p]))
    unfold okEff at h ⊢
    exact ⟨h.1, h.2.1, okEff_snoc h.2.2 h1 h2⟩
theorem Names.sub {ns ms : List Str} (h : Names ns) (s : ms.Sublist ns) : Names ms := ⟨fun z hz => h.good z (s.subset hz), h.nd.sublist s⟩
/-- the keys of the shape -/
def shp (k c s sl w : V) : List (Key × V) := [(.inr "kind", k), (.inr "cells", c), (.inr "sources", s), (.inr "slots", sl), (.inr "words", w)]
def shp7 (k c s sl w p r : V) : List (Key × V) := [(.inr "kind", k), (.inr "cells", c), (.inr "sources", s), (.inr "slots", sl), (.inr "words", w), (.inr "peeks", p), (.inr "writes", r)]
def shp6 (k c s sl w p : V) : List (Key × V) := [(.inr "kind", k), (.inr "cells", c), (.inr "sources", s), (.inr "slots", sl), (.inr "words", w), (.inr "peeks", p)]
section
variable (k c s sl w p r k' c' p' r' : V)
theorem shp_merge : mergeK [] (shp k c s sl w) = shp k c s sl w := by kernel_rfl
theorem shp_peeks : putK (shp k c s sl w) (.inr "peeks") p = shp6 k c s sl w p := by kernel_rfl
theorem shp_writes : putK (shp6 k c s sl w p) (.inr "writes") r = shp7 k c s sl w p r := by kernel_rfl
theorem shp7_cells : putK (shp7 k c s sl w p r) (.inr "cells") c' = shp7 k c' s sl w p r := by kernel_rfl
theorem shp7_kind : putK (shp7 k c s sl w p r) (.inr "kind") k' = shp7 k' c s sl w p r := by kernel_rfl
theorem shp7_peeks : putK (shp7 k c s sl w p r) (.inr "peeks") p' = shp7 k c s sl w p' r := by kernel_rfl
theorem shp7_writes : putK (shp7 k c s sl w p r) (.inr "writes") r' = shp7 k c s sl w p r' := by kernel_rfl
theorem get_words : valV (shp7 k c s sl w p r) (.inr "words") = some w := by kernel_rfl
theorem get_slots : valV (shp7 k c s sl w p r) (.inr "slots") = some sl := by kernel_rfl
theorem get_cells : valV (shp7 k c s sl w p r) (.inr "cells") = some c := by kernel_rfl
theorem get_sources : valV (shp7 k c s sl w p r) (.inr "sources") = some s := by kernel_rfl
theorem get_kind : valV (shp7 k c s sl w p r) (.inr "kind") = some k := by kernel_rfl
theorem get_peeks : valV (shp7 k c s sl w p r) (.inr "peeks") = some p := by kernel_rfl
theorem get_writes : valV (shp7 k c s sl w p r) (.inr "writes") = some r := by kernel_rfl
end
theorem inV_strs (z : Str) (ws : List Str) : inV (.str z) (ws.map V.str) = decide (z ∈ ws) := by
  induction ws with
  | nil => rfl
  | cons y r ih =>
    show (eqV (.str y) (.str z) || inV (.str z) (r.map V.str)) = _
    rw [ih]
    have e : eqV (.str y) (.str z) = decide (z = y) := by
      show (_ : Bool) = _
      by_cases h : z = y
      · subst h; simp [eqV]
      · simp [eqV, h]
        intro h'; exact h h'.symm
    rw [e]
    simp
theorem flat_strs (ws : List Str) : (ws.map V.str).all flatV = true := by
  rw [List.all_eq_true]; intro y hy; obtain ⟨u, _, rfl⟩ := List.mem_map.mp hy; rfl
theorem cut_from1 (xs : List V) : cutV xs (some 1) none = xs.drop 1 := by
  unfold cutV
  rw [HT.sIx_none, show HT.sIx xs.length 0 (some 1) = min 1 xs.length from HT.sIx_nat _ _ 1]
  rcases xs with _ | ⟨x, r⟩
  · rfl
  · show ((x :: r).drop (min 1 (r.length + 1))).take ((r.length + 1) - min 1 (r.length + 1)) = _
    rw [show min 1 (r.length + 1) = 1 by omega]
    simp
theorem cut_to (xs : List V) (k : Nat) (h : k ≤ xs.length) : cutV xs none (some (k : Int)) = xs.take k := by
  unfold cutV
  rw [HT.sIx_none, HT.sIx_nat, List.drop_zero, Nat.sub_zero, Nat.min_eq_left h]
theorem not_whole1 {xs : List V} (h : xs ≠ []) (hi : Option Int) : ¬ (HT.sIx xs.length 0 (some 1) = 0 ∧ HT.sIx xs.length xs.length hi = xs.length) := by
  rintro ⟨e, _⟩
  rw [show HT.sIx xs.length 0 (some 1) = min 1 xs.length from HT.sIx_nat _ _ 1] at e
  have := List.length_pos_iff.mpr h
  omega
/-- the words with another one at the end -/
theorem Names.turn {ws : List Str} {z : Str} (h : Names ws) (hz : isNm z = true) (hn : z ∉ ws) : Names (ws.drop 1 ++ [z]) := by
  refine ⟨fun y hy => ?_, ?_⟩
  · rcases List.mem_append.mp hy with q | q
    · exact h.good y (List.mem_of_mem_drop q)
    · rw [List.mem_singleton.mp q]; exact hz
  · refine List.nodup_append.mpr ⟨h.nd.sublist (List.drop_sublist 1 ws), by simp, fun a ha b hb e => ?_⟩
    have : b = z := by simpa using hb
    subst this
    subst e
    exact hn (List.mem_of_mem_drop ha)
end Td
/-! Loops over texts and enumerated tuples; a call of one of several defs. -/
namespace Td
open PySem PySem.Spec PyProof.Rows L2
theorem tYes_of {σ : L2.St} {H : Hp} {A B : Hp → Prop} (h : A H) : tYes σ H (fun b H3 => if b = true then A H3 else B H3) := by
  show (if true = true then A H else B H)
  exact iteT h
theorem lc_str {z : Str} {g : TG} {tt : TT} {te : TE} {vs : List Nat} {σ : L2.St} {H1 : Hp} {D : Addr} {Qd : Hp → Prop} (Pv : Nat → Hp → Prop) (h0 : Pv 0 (upd H1 D (.lst [])))
    (hs : ∀ (i c : Nat) (H : Hp), z.cps[i]? = some c → Pv i H → g (.str ⟨#[c]⟩) (wipe σ vs) H fun σ2 H2 => wipe σ2 vs = wipe σ vs ∧ tt σ2 H2 fun b H3 =>
      if b = true then te σ2 H3 fun y H4 => ∃ acc, H4 D = some (.lst acc) ∧ acc.length < sizeLine ∧ Pv (i + 1) (upd H4 D (.lst (acc ++ [y]))) else Pv (i + 1) H3) (hd : ∀ H, Pv z.cps.size H → Qd H) :
    ∃ W : Nat → Nat → Hp → Prop, (∃ m, W 0 m (upd H1 D (.lst []))) ∧ ∀ i m H, W i m H →
      ((Its z).stop i H ∧ Qd H) ∨ ((Its z).go i H ∧ ∃ Nx : Hp → Prop, (∀ H', Nx H' → ∃ m', m' < m ∧ W (i + 1) m' H') ∧ ∀ x H', (Its z).yld i H x H' → g x (wipe σ vs) H' fun σ2 H2 => wipe σ2 vs = wipe σ vs ∧ tt σ2 H2 fun b H3 =>
        if b = true then te σ2 H3 fun y H4 => ∃ acc, H4 D = some (.lst acc) ∧ acc.length < sizeLine ∧ Nx (upd H4 D (.lst (acc ++ [y]))) else Nx H3) := by
  refine ⟨fun i m H => m = z.cps.size - i ∧ i ≤ z.cps.size ∧ Pv i H, ⟨z.cps.size, by simp, Nat.zero_le _, h0⟩, ?_⟩
  rintro i m H ⟨rfl, hi, p⟩
  by_cases hlt : i < z.cps.size
  · refine .inr ⟨hlt, Pv (i + 1), fun H' p' => ⟨z.cps.size - (i + 1), by omega, rfl, hlt, p'⟩, fun x H' y => ?_⟩
    obtain ⟨e, c, hc, ex⟩ := y
    subst e
    subst ex
    exact hs i c _ hc p
  · have e : i = z.cps.size := by omega
    subst e
    exact .inl ⟨Nat.le_refl _, hd H p⟩
theorem for_enumT {K : PySem.W.Frag} {a : Addr} {xs : List V} {g : TG} {tb : TS} {D : Ends} {σ : L2.St} {H : Hp} (Pv : Nat → L2.St → Hp → Prop) (h0 : Pv 0 σ H) (hl : ∀ i σ H, i ≤ xs.length → Pv i σ H → SqT K H a xs)
    (hs : ∀ (i : Nat) (x : V) (σ : L2.St) (H : Hp) (T : Addr), xs[i]? = some x → Pv i σ H → H T = none → g (.ref T) σ (upd H T (.tup [.int (i : Nat), x])) fun σ2 H2 => tb { D with nx := Pv (i + 1), ct := Pv (i + 1), bk := D.nx } σ2 H2)
    (hd : ∀ σ H, Pv xs.length σ H → D.nx σ H) :
    ∃ W : Nat → Nat → L2.St → Hp → Prop, (∃ m, W 0 m σ H) ∧ ∀ i m σ H, W i m σ H →
      ((IteT K a).stop i H ∧ D.nx σ H) ∨ ((IteT K a).go i H ∧ ∃ N : L2.St → Hp → Prop, (∀ σ' H', N σ' H' → ∃ m', m' < m ∧ W (i + 1) m' σ' H') ∧
        ∀ x H', (IteT K a).yld i H x H' → g x σ H' fun σ2 H2 => tb { D with nx := N, ct := N, bk := D.nx } σ2 H2) := by
  refine ⟨fun i m σ H => m = xs.length - i ∧ i ≤ xs.length ∧ Pv i σ H, ⟨xs.length, by simp, Nat.zero_le _, h0⟩, ?_⟩
  rintro i m σ H ⟨rfl, hi, p⟩
  have q := hl i σ H hi p
  by_cases hlt : i < xs.length
  · refine .inr ⟨⟨xs, xs[i], q, by simp [hlt]⟩, Pv (i + 1), fun σ' H' p' => ⟨xs.length - (i + 1), by omega, rfl, hlt, p'⟩, fun x H' y => ?_⟩
    obtain ⟨T, u, ex, hT, eH, hu⟩ := y
    subst ex
    subst eH
    exact hs i u σ H T (hu xs q) p hT
  · have e : i = xs.length := by omega
    subst e
    exact .inl ⟨⟨xs, q, rfl⟩, hd σ H p⟩
/-- a call of a local name that holds one of several defs -/
def tCallR (i : Nat) (S : Addr → Sp → Prop) (t : TA) : TE := fun σ H Q => ∃ f sp, σ[i]? = some (some (.ref f)) ∧ S f sp ∧ t σ H fun vs H1 => sp vs H1 Q (fun _ _ _ => False)
section
variable {X : Cx} {k i : Nat} {x : Str} {p pos : Pos} {e : Expr} {es : List Expr} {t : TA}
theorem pe_callR {S : Addr → Sp → Prop} (A : ∀ f sp, S f sp → Held X.prog X.w X.K X.mg X.base k f sp) (hr : Room k X.A) (hN : X.N[i]? = some x) (hv : Vis X.env.scope x) (ha : PA X (e :: es) t)
    (hdb : (x == ("__debug__" : Str)) = false := by decide) (hcd : (x == ("__classdict__" : Str)) = false := by decide)
    (he : starEach (e :: es) X.env = (false, eval e X.env) :: starEach es X.env := by rfl) (hpl : (backTo pos (starEach es X.env)).any (·.1) = false := by rfl) :
    PE X (.Call (.Name x p) (e :: es) [] pos) (tCallR i S t) := by
  refine ⟨fun pins s σ H Q I h => ?_⟩
  obtain ⟨f, sp, h1, h2, h3⟩ := h
  exact (pe_callA (S := fun g => if g = f then some sp else none) (fun g sp' h => by
    split at h
    · rename_i e1
      cases h
      rw [e1]
      exact A f sp h2
    · cases h) hr hN hv ha hdb hcd he hpl).run pins s σ H Q I ⟨f, sp, h1, if_pos rfl, h3⟩
end
end Td
/-! A method whose first statement is super().__init__() with no more arguments. -/
namespace Td
open PySem PySem.Spec PyProof.Rows L2
/-- what is written of such a method: it stands at f in the class at C, its class cell at cc; g is the other class's __init__ -/
structure Sup (P : Program) (K : PySem.W.Frag) (qual : Str) (st : Stmt) (f C g : Addr) (fd : FuncData) : Prop where
  ex : ∃ (oc : Value) (od : Option Addr) (sl : Array (Option Value)) (kV doc pm : Value) (an : Option Addr) (ct : Value) (cc cda : Addr) (ccl : Value) (cdd : Option Addr) (vs : Array Value) (ccs : Array (Option Value)) (file : Str) (tf : Tok) (cl : Value) (cld : Option Addr) (csl : Array (Option Value)),
    fd = PySem.W.fnX "__init__" qual (defArgs st) (defBody st) (defScope st) [("__class__", cc)] .none kV doc pm an (.ref cda) ct ∧ K.lookup f = some ⟨oc, od, .func fd, sl⟩ ∧ PySem.W.codeIn K (.ref cda) qual = true ∧
    K.lookup cda = some ⟨ccl, cdd, .fields vs, ccs⟩ ∧ vs[2]? = some (.str file tf) ∧ ((P.main.file : Str) == file) = true ∧ K.lookup cc = some ⟨cl, cld, .cell (some (.ref C)), csl⟩
  cls : ∃ cd, PySem.W.clsIn K C = some cd
  mro : PySem.W.mroIn K C (.ref C) = some true
  up : PySem.W.ks_superIn K C C "__init__" = some (some (.ref g))
  ty : PySem.W.typeIn K (.ref g) = some (.type "function")
  fn : PySem.W.fnIn K g = true
  opq : PySem.W.nsIn K cStatics "thirdparty.any" = some none
  glob : PySem.W.nsIn K mainGlobals "super" = some none
  kp : PySem.W.keepIn K (.ref f) = true
def supNF (qual : Str) (st : Stmt) (cc cda : Addr) : NdefX.NF := ⟨"__init__", qual, defArgs st, defBody st, defScope st, [("__class__", cc)], cda⟩
theorem sup_tree {o : Expr} {m : Str} {ap cp : Pos} {env : PySem.Env} (hl : (ap.endLine == cp.line) = true) : eval (.Call (.Attribute o m ap) [] [] cp) env = (do
      let ov ← attributeBase o m env (eval o env)
      standAt ap.atName
      let (f, first) ← holding [ov] (getMethod ov m (plainOf o env))
      callWith cp f first (backTo cp (starEach [] env)) []) := by
  rw [arm_eval_Call]
  refine bind_congr fun ov => bind_congr fun _ => ?_
  exact mcall_line rfl hl
section
variable {P : Program} {w : World} {K : PySem.W.Frag} {mg : Str → Option Value} {base : Heap}
theorem Sup.binds {qual : Str} {st : Stmt} {f C g : Addr} {fd : FuncData} {ps : List Str} (F : Sup P K qual st f C g fd)
    (h : ∀ (kV doc pm : Value) (an : Option Addr) (cdv ct : Value) (cc : Addr) (us : List Value), us.length = ps.length → bindArgs (PySem.W.fnX "__init__" qual (defArgs st) (defBody st) (defScope st) [("__class__", cc)] .none kV doc pm an cdv ct) ⟨us, []⟩ = pure (ps.zip us)) : Binds K fd ps [] := by
  obtain ⟨oc, od, sl, kV, doc, pm, an, ct, cc, cda, ccl, cdd, vs, ccs, file, tf, cl, cld, csl, rfl, _⟩ := F.ex
  exact .all (h kV doc pm an (.ref cda) ct cc)
theorem fn_super {qual : Str} {st : Stmt} {f C g : Addr} {fd gd : FuncData} {N ps : List Str} {k : Nat} {sp spG : Sp} {p0 p1 ap cp ep : Pos} {rest : List Stmt} {ar : Arg} {us0 : List Str}
    (F : Sup P K qual st f C g fd) (hst : defBody st = .Expr (.Call (.Attribute (.Call (.Name "super" p0) [] [] p1) "__init__" ap) [] [] cp) ep :: rest)
    (S : NdefX.NScope N ps ["__class__"] (defScope st)) (hps : ps = ar.arg :: us0) (har : ((defArgs st).posonlyargs ++ (defArgs st).args).head? = some ar)
    (hline : (ap.endLine == cp.line) = true) (hks : (defScope st).names.lookup ("super" : Str) = some .globalImplicit) (htop : (P.main.scope.names.lookup ("super" : Str)).isSome = false)
    (G : FnOk P w K mg base CX0 k g gd [ar.arg] spG) (bG : Binds K gd [ar.arg] [])
    (len : ∀ vs H Q E, sp vs H Q E → vs.length = ps.length)
    (hbody : ∀ (A : Around) (outer : List PySem.Env) (s : Shared) (H : Hp) (vs : List V) (Q : VK) (E : XK) (cc cda : Addr), Room k (A.deeper (NdefX.envF (supNF qual st cc cda) f s.heap.objs.size)) → sp vs H Q E →
      ∃ (x dx : Addr) (fs : List (Str × V)) (vs' : List V), vs = .ref x :: vs' ∧ H x = some (.ins C dx fs) ∧ spG [.ref x] H (fun v H' => v = .non ∧
        ∃ t, PSs (NdefX.ncx CX0 P w K mg base N (supNF qual st cc cda) f A outer s H E) rest t ∧ t { nx := fun _ H' => Q .non H', rt := Q } (NdefX.startF N vs [none]) H') E0) :
    FnOk P w K mg base CX0 (k + 1) f fd ps sp := by
  refine ⟨len, fun A outer s H args us vs Q E hr e0 hb r hsp => ?_⟩
  obtain ⟨oc, od, sl, kV, doc, pm, an, ct, cc, cda, ccl, cdd, cvs, ccs, file, tf, cl, cld, csl, rfl, lk, hcd, lcd, hcv, hfile, lcc⟩ := F.ex
  have hl := len _ _ _ _ hsp
  have KX : K.In s.heap := e0.mod.kin.keeps fun b o e => (e0.bs b o e).1
  have lim : s.heap.NoLimit := e0.mod.nolimit.keeps fun b o e => (e0.bs b o e).1
  refine ks_codeAny_call_defAt hr.depth (KX _ _ lk) rfl lim (PySem.W.codeRec_of KX hcd) rfl hb S.nocell (fun ⟨n, _⟩ hy => S.par n (List.of_mem_zip hy).1) (fun h₁ hns kp => ?_) S.co S.gen S.kind
  show PySem.wpAt _ (A.deeper (NdefX.envF (supNF qual st cc cda) f s.heap.objs.size)) (.func (defBody st) (NdefX.envF (supNF qual st cc cda) f s.heap.objs.size)) (execs (defBody st) (NdefX.envF (supNF qual st cc cda) f s.heap.objs.size)) _ _ _
  have cells : NdefX.CellsAt (supNF qual st cc cda).cl ["__class__"] [none] s.heap H := by
    have one : ∀ y c, List.lookup y [(("__class__" : Str), cc)] = some c → y = "__class__" ∧ c = cc := fun y c e => by
      by_cases z : y = ("__class__" : Str)
      · subst z
        simp [List.lookup] at e
        exact ⟨rfl, e.symm⟩
      · have q : (y == ("__class__" : Str)) = false := by simpa using z
        simp [List.lookup, q] at e
    refine ⟨rfl, fun y c e => ?_, fun x y c e1 e2 => (one x c e1).1.trans (one y c e2).1.symm, fun i y e => ?_⟩
    · obtain ⟨_, rfl⟩ := one y c e
      exact ⟨(e0.bs _ _ (e0.mod.kin _ _ lcc)).2, some (.ref C), _, KX _ _ lcc, rfl⟩
    · cases i with
      | zero =>
        have ey : y = "__class__" := (Option.some.inj e).symm
        subst ey
        exact ⟨cc, by simp [supNF, List.lookup], fun v z => by simp at z⟩
      | succ n => simp at e
  have I : Inv (NdefX.ncx CX0 P w K mg base N (supNF qual st cc cda) f A outer s H E) [] (NdefX.startF N vs [none]) H { s with heap := h₁, toks := s.toks + (ps.zip us).length } := NdefX.inv_startN S hr.hd e0 hl r cells hns kp
  obtain ⟨x, dx, fs, vs', rfl, hx, hG⟩ := hbody A outer s H vs Q E cc cda (hr.deeper _) hsp
  cases r with
  | cons ru rr =>
    rename_i u0 us1
    obtain rfl : u0 = Value.ref x := ru
    have K1 : K.In h₁ := I.kIn
    obtain ⟨cd, hcls⟩ := F.cls
    obtain ⟨oD, hD1, hD2⟩ : ∃ oD, h₁.get? C = some oD ∧ oD.data = .cls cd := by
      unfold PySem.W.clsIn at hcls
      split at hcls
      · rename_i c d cd' sl' ho
        cases hcls
        exact ⟨_, K1 _ _ ho, rfl⟩
      · cases hcls
    obtain ⟨mA, O, _⟩ := ins_get I.hok hx
    obtain ⟨od1, J, _⟩ := O.look
    have nx : (NdefX.envF (supNF qual st cc cda) f s.heap.objs.size).kindOf "super" = some .globalImplicit := hks
    have nc : (NdefX.envF (supNF qual st cc cda) f s.heap.objs.size).kindOf "__class__" = some .free := S.frk _ (by simp)
    have ns : (NdefX.envF (supNF qual st cc cda) f s.heap.objs.size).kindOf ar.arg = some .local := S.par _ (by rw [hps]; simp)
    obtain ⟨mb, hb1, hb2⟩ := e0.mod.blt
    rw [hst]
    refine ks_wpAt_execs_cons (ks_wpAt_Expr_any ?_ I.quiet)
    refine ks_wpAt_MethodCall ?_ (sup_tree hline)
    refine ks_wpAt_super_base nx nc rfl rfl (K1 _ _ lk) rfl har rfl (K1 _ _ lcd) rfl hcv hfile htop ?_
    refine PySem.W.ks_loadName_global S.kind nx (Calls.loadGlobal_builtin (by exact e0.mod.glob.keeps I.bk) (PySem.W.mg_none_of e0.mod.kin e0.mod.glob F.glob) (by exact hb1.keeps I.bk) ((hb2 "super" (by decide)).trans (by decide +kernel : bootBuiltins "super" = some (.type "super"))) ⟨rfl, ?_⟩)
    refine wpAny_loadName_free S.kind nc rfl ⟨_, K1 _ _ lcc, rfl⟩ ?_
    refine wpAny_loadName_local S.kind ns hns (v := .ref x) ?_ ?_
    · rw [hps, List.zip_cons_cons, List.reverse_cons, List.lookup_append]
      have hn : (us0.zip us1).reverse.lookup ar.arg = none := by
        have nd := S.nd.sublist (List.take_sublist (ps.length + 1) N)
        have pre := S.pre
        rw [show (["__class__"] : List Str).length = 1 from rfl] at pre
        rw [pre, hps, List.cons_append] at nd
        exact NdefX.look_none fun v hv => (List.nodup_cons.mp nd).1 (List.mem_append_left _ (List.of_mem_zip (List.mem_reverse.mp hv)).1)
      rw [hn]
      simp [List.lookup]
    refine ks_wpAny_isType_cls hD1 hD2 ⟨rfl, ?_⟩
    refine ks_wpAny_call_super hD1 hD2 J.at_ J.cls (fun c e => by cases e) (PySem.W.looks_mroIn K1 F.mro) (fun h' eso k' => ?_)
    have K2 : K.In h' := K1.keeps k'
    have hgf : ∃ of, h'.get? g = some of ∧ of.cls = .type "function" := by
      have ht' : (K.lookup g).map (·.cls) = some (.type "function") := F.ty
      cases z : K.lookup g with
      | none => rw [z] at ht'; cases ht'
      | some of => rw [z] at ht'; exact ⟨of, K2 _ _ z, Option.some.inj ht'⟩
    obtain ⟨of, hof, hofc⟩ := hgf
    have hup := F.up
    unfold PySem.W.ks_superIn at hup
    rw [hcls] at hup
    refine ks_wpAny_getMethod_super eso (PySem.W.looks_opaque K2 F.opq) (l₀ := cd.mro) ?_ rfl K2 hup hof hofc (PySem.W.ks_ne K1 J hcls) rfl ?_
    · exact fun A Q E s k q => wpAny_bind ((PySem.W.looks_clsIn K2 hcls) A _ E s k (wpAny_pure q))
    have k3 : ∀ b o, h₁.get? b = some o → (h'.push { cls := .type "method", data := .fields #[.ref g, .ref x] }).get? b = some o := fun b o e => Heap.get?_push_of_some _ (k' b o e)
    have J2 := I.kept (t' := s.toks + (ps.zip (Value.ref x :: us1)).length + 1) k3
    refine PySem.W.callWith_M0 (g := g) (self := .ref x) (K := K) ⟨Heap.get?_push_at rfl rfl, J2.kIn⟩ F.fn (wpAny_call (ks_codeAny_call_bound (Heap.get?_push_at rfl rfl) ?_))
    refine codeAny_mono (G.run _ _ _ H ⟨[.ref x], []⟩ [.ref x] [.ref x] _ E0 (hr.deeper _) J2.env0 (bG _ [.ref x] J2.kIn rfl) (.cons rfl .nil) hG) fun r s' hq => ?_
    cases r with
    | error e => exact hq.elim
    | ok fl =>
      cases fl with
      | next => exact False.elim hq
      | brk => exact False.elim hq
      | cont => exact False.elim hq
      | ret u =>
        obtain ⟨v, H', J3, rv, ev, t, ht, hq3⟩ := J2.after hq
        refine PySem.wpAt_of_wpAny ?_
        refine wpAny_mono (ht.run [] s' _ H' _ J3 hq3) (fun fl s2 hs => ?_) fun e s2 hs => hs
        have fin : ∀ {σ' : L2.St} {H' : Hp} {v : V} {u : Value}, Inv (NdefX.ncx CX0 P w K mg base N (supNF qual st cc cda) f A outer s H E) [] σ' H' s2 → RelV v u → Q v H' → CE outer P w H s Q u s2 :=
          fun {σ' H' v u} J rv q => ⟨v, H', J.os, J.bare, J.base, J.hok, rv, q⟩
        cases fl with
        | ret u =>
          obtain ⟨v, σ', H', J, rv, q⟩ := hs
          exact fin J rv q
        | next =>
          obtain ⟨σ', H', J, q⟩ := hs
          exact fin (v := V.non) (u := Value.none) J rfl q
        | brk =>
          obtain ⟨_, _, _, q⟩ := hs
          exact False.elim q
        | cont =>
          obtain ⟨_, _, _, q⟩ := hs
          exact False.elim q
end
end Td
/-! Own exceptions of one field; several clauses with a name each; a datum in a tuple. -/
namespace Td
open PySem PySem.Spec PyProof.Rows L2
/-! ### a datum in a tuple of data -/
def rInDT (K : PySem.W.Frag) (neg : Bool) : R2 := fun x y H Q => ∃ d ds, Dp K H x d ∧ Dp K H y (.tuple ds) ∧ SeqAt.shaped d = true ∧ SeqAt.shaped (.tuple ds) = true ∧ Q (.bl (if neg then !(ds.any fun z => PyData.eqv z d) else ds.any fun z => PyData.eqv z d)) H
section
variable {X : Cx}
theorem op_inDT (hu : X.A.units + 65 < cLine) : OpR X (compareOp .In) (rInDT X.K false) := by
  rintro pins s σ H x y v u Q I rx ry ⟨d, ds, h1, h2, e1, e2, q⟩
  obtain ⟨la, ra⟩ := Dp.reads I d x v h1 rx
  obtain ⟨lb, rb⟩ := Dp.reads I (.tuple ds) y u h2 ry
  exact SeqAt.in_tuple_reads rb ra (SeqAt.canLay_of_shaped e2) (SeqAt.canLay_of_shaped e1) (room_in_shaped e1 hu) ⟨.bl _, H, I, rfl, q⟩
end
theorem units65 {k : Nat} {A : Around} (r : Room k A) : A.units + 65 < cLine := by have := r.un; omega
/-! ### an own exception of one field -/
def spExc (K : PySem.W.Frag) (C : Addr) : Str → Sp := fun f vs H Q _ => ∃ (a : Addr) (y : V), vs = [.ref a, y] ∧ H a = some (exo a C none) ∧
  ∀ dx H', H dx = none → dx ≠ a → H' = upd (upd H dx (exd dx [(f, y)])) a (exo a C (some dx)) → Q .non H'
/-- what a raise wants of the way out -/
def Rz (C : Addr) (f : Str) (y : V) (H : Hp) (E : XK) : Prop := ∀ (d : Addr) (H' : Hp), Same H H' → H d = none → H' d = some (.xd [(f, y)]) → E (.ref C) (some d) H'
theorem Rz.later {C : Addr} {f : Str} {y : V} {H H1 : Hp} {E : XK} (r : Rz C f y H E) (s : Same H H1) : Rz C f y H1 E := fun d H' s' hd e => by
  refine r d H' (s.trans s') ?_ e
  cases z : H d with
  | none => rfl
  | some o => rw [s _ _ z] at hd; cases hd
theorem one_field {H : Hp} {a C dx : Addr} {f : Str} {y : V} (ha : H a = none) (hx : dx ≠ a) :
    upd (del (upd (upd (upd H a (exo a C none)) dx (exd dx [(f, y)])) a (exo a C (some dx))) a) dx (.xd [(f, y)]) = upd H dx (.xd [(f, y)]) := by
  funext b
  by_cases h1 : b = dx
  · rw [h1, upd_same, upd_same]
  · rw [upd_ne h1, upd_ne h1]
    by_cases h2 : b = a
    · rw [h2, del_same, ha]
    · rw [del_ne h2, upd_ne h2, upd_ne h1, upd_ne h2]
/-- the making of such an exception, with its argument at hand -/
theorem made_one {K : PySem.W.Frag} {C : Addr} {f : Str} {y : V} {H : Hp} {Q : XK} (q : Rz C f y H Q) : [y].length ≤ 1000 ∧ ∀ a, H a = none → spExc K C f (.ref a :: ([y] ++ [])) (upd H a (exo a C none))
    (fun v H2 => v = .non ∧ ∃ (d : Addr) (fs : List (Str × V)), H2 a = some (exo a C (some d)) ∧ H2 d = some (exd d fs) ∧ H d = none ∧ Q (.ref C) (some d) (upd (del H2 a) d (.xd fs))) (fun _ _ _ => False) := by
  refine ⟨by show 1 ≤ 1000; decide, fun a ha => ⟨a, y, rfl, upd_same, fun dx H' hdx hne e => ⟨rfl, dx, [(f, y)], ?_, ?_, ?_, ?_⟩⟩⟩
  · rw [e]; exact upd_same
  · rw [e, upd_ne hne]; exact upd_same
  · rw [upd_ne hne] at hdx; exact hdx
  · have hd : H dx = none := by rw [upd_ne hne] at hdx; exact hdx
    rw [e, one_field ha hne]
    exact q dx _ (Same.new hd _) hd upd_same
/-! ### try: .. except A as e: .. except B as e: .. -/
abbrev SuiteT : Type := Addr → Value → Option Addr → TS
/-- D, slot i emptied ahead of it -/
def emptied (i : Nat) (D : Ends) : Ends := { nx := fun τ G => D.nx (τ.set i none) G, rt := D.rt, bk := fun τ G => D.bk (τ.set i none) G, ct := fun τ G => D.ct (τ.set i none) G }
def wAsL (K : PySem.W.Frag) (Wout : WX) (D : Ends) : List (Value × Nat × SuiteT) → WX
  | [] => Wout
  | q :: r => fun cls d σ H => ∃ b, PySem.W.exmOne K cls q.1 = some b ∧ (b = true → ∀ a, H a = none → q.2.2 a cls d (emptied q.2.1 D) (σ.set q.2.1 (some (.ref a))) H) ∧ (b = false → wAsL K Wout D r cls d σ H)
inductive Clauses (X : Cx) : List ExceptHandler → List (Value × Nat × SuiteT) → Prop
  | none : Clauses X [] []
  | more {x n : Str} {c : Value} {i : Nat} {t : SuiteT} {st : Stmt} {sts : List Stmt} {p p' : Pos} {hs : List ExceptHandler} {l : List (Value × Nat × SuiteT)} (hi : X.N[i]? = some n) (hn : X.env.kindOf n = some .local) (hc : L2.Names X x c)
      (go : ∀ (a : Addr) (o : Obj) (cls : Value) (d : Option Addr) (pn : List (Addr × Obj)), Zc cls d o → (∃ vs, o.data = .fields vs) → PSs (X.suite a ((a, o) :: pn)) (st :: sts) (t a cls d)) (r : Clauses X hs l) :
      Clauses X (.ExceptHandler (some (.Name x p)) (some n) (st :: sts) p' :: hs) ((c, i, t) :: l)
section
variable {X : Cx}
theorem ps_try_asL {body : List Stmt} {h : ExceptHandler} {hs : List ExceptHandler} {l : List (Value × Nat × SuiteT)} {pos : Pos} {tb : WX → TS} {Wout : WX} (h1 : X.stack = X.env :: X.outer) (h2 : X.env.frame = some X.env.locals) (nd : X.N.Nodup) (tk : Takes X Wout)
    (hb : ∀ (W : WX) (pn : List (Addr × Obj)) (xe : Value → Shared → Prop), Takes (X.tr pn xe) W → PassesOwn (model X.prog X.w) X.A X.env xe → PSs (X.tr pn xe) body (tb W))
    (hh : Clauses X (h :: hs) l) : PS X (.Try body (h :: hs) [] [] pos) (fun D σ H => tb (wAsL X.K Wout D l) D σ H) := by
  constructor
  intro pins s σ H D I want
  have okX := I.ok
  have frX : X.A.frames = some (X.env :: X.outer) := okX.frames.trans (congrArg some h1)
  refine wpAny_Try_except (wpAny_mono ((hb (wAsL X.K Wout D l) (X.pn ++ pins) (fun e s₁ => wpAny (model X.prog X.w) X.A (noteFrame e X.env) (fun _ s₂ => wpAny (model X.prog X.w) X.A (setFlight e none)
    (fun _ s₃ => wpAny (model X.prog X.w) X.A (handleBy e X.env (h :: hs)) (SP X pins D) X.xe s₃) X.xe s₂) X.xe s₁) (fun u s1 got => ?_) PassesOwn.looking).run [] s σ H D (I.toTry _) want) (fun fl s1 fin => ?_) fun _ _ z => z)
  · obtain ⟨a, B, sI, pins', τ, G, cls, d, rfl, J0, nb, up, sky, na, os, ag, w⟩ := got
    have J := J0.ofTry okX
    rw [h1] at sky
    show wpAny (model X.prog X.w) X.A (noteFrame (.ref a) X.env) _ _ _
    refine Sky.land Zc.steady frX h2 sky fun hp fly up1 => ?_
    have JP : Inv X pins τ G { s1 with heap := hp } := J.landed nb fly.1 (up.trans up1) os ag
    obtain ⟨o, vs, ho, hz, hd⟩ := fly.there
    have off : a ∉ frs (X.env :: X.outer) := fun m => by
      obtain ⟨_, o', e', nf⟩ := fly.2.2.1.mem m
      rw [ho] at e'
      cases e'
      exact nf _ hd
    have offL : a ≠ X.env.locals := fun z => off (List.mem_filterMap.mpr ⟨X.env, List.mem_cons_self, by rw [h2, z]⟩)
    have offF : a ∉ X.fs := fun m => by
      obtain ⟨ev, he, q⟩ := List.mem_filterMap.mp m
      exact off (List.mem_filterMap.mpr ⟨ev, List.mem_cons_of_mem _ he, q⟩)
    have SP0 := JP.suite ho hd na offL offF
    suffices all : ∀ {hs' : List ExceptHandler} {l' : List (Value × Nat × SuiteT)}, Clauses X hs' l' → wAsL X.K Wout D l' cls d τ G → wpAny (model X.prog X.w) X.A (handleBy (.ref a) X.env hs') (SP X pins D) X.xe { s1 with heap := hp } from all hh w
    intro hs' l' cl
    induction cl with
    | none =>
      intro w0
      refine wpAny_handleBy_nil ?_
      obtain ⟨_, _, _, o1, vs1, T, _, _, ho1, _, hd1, hv1, _⟩ := id fly
      unfold PySem.passOn
      refine wpAny_bind (wpAny_field ho1 hd1 hv1 ?_)
      rw [if_neg (show ¬ ((Value.ref T == Value.none) = true) by simp)]
      have away : wpAny (model X.prog X.w) X.A (setFlight (.ref a) X.env.frame) (fun _ s4 => wpAny (model X.prog X.w) X.A (throw (.ref a) : Sem Flow) (SP X pins D) X.xe s4) X.xe { s1 with heap := hp } := by
        rw [h2]
        exact HandSPX.setFlight_upZ fly fun hq kq uq => wpAny_throw (tk _ _ ⟨a, B, sI, pins, τ, G, cls, d, rfl, J, nb, (up.trans up1).trans uq, .inr (.inr (by rw [h1]; exact kq)), na, os, ag, w0⟩)
      first
        | exact wpAny_bind (wpAny_pure (wpAny_bind away))
        | exact wpAny_bind away
    | @more x n c i t st sts p p' hs2 l2 hi hn hc go r ih =>
      intro w0
      obtain ⟨b, hm, yes, no⟩ := w0
      refine wpAny_handleBy_cons (codeAny_handlers_test ?_) (by intro q; cases q)
      have tyA : PySem.W.Looks (model X.prog X.w) hp (typeOf (.ref a)) cls := fun _ _ _ _ k q => wpAny_typeOf_ref (k _ _ ho) (by rw [hz.1]; exact q)
      have mt := PySem.W.exm_one (M := model X.prog X.w) JP.kIn tyA hm
      have name : ∀ {Q : Value → Shared → Prop} {E : Value → Shared → Prop}, Q c { s1 with heap := hp } → wpAny (model X.prog X.w) (X.A.mark (some (.ref a))) (eval (.Name x p) X.env) Q E { s1 with heap := hp } := fun q => by
        rcases hc with ⟨hg, hdb, hm1 | ⟨hm1, hv1, hn1⟩⟩
        · exact ld_glob (X := X.suite a ((a, o) :: (X.pn ++ pins))) SP0 hg hm1 q hdb
        · exact ld_blt (X := X.suite a ((a, o) :: (X.pn ++ pins))) SP0 hg hm1 hv1 q hn1 hdb
      refine name (mt.here ?_)
      cases b with
      | false => exact ih (no rfl)
      | true =>
        refine codeAny_handlers_suite_as (HandSPX.lands_againZ fly fun hq fq uq => ?_)
        have JQ : Inv X pins τ G { s1 with heap := hq } := J.landed nb fq.1 ((up.trans up1).trans uq) os ag
        obtain ⟨oq, vq, hoq, hzq, hdq⟩ := fq.there
        refine store_ok (X := X.suite a ((a, oq) :: (X.pn ++ pins))) (v := .ref a) (JQ.suite hoq hdq na offL offF) nd hi (.inl hn) rfl (fun s5 S5 => ?_) (.inr hn)
        refine wpAny_mono ((go a oq cls d (X.pn ++ pins) hzq ⟨_, hdq⟩).run [] s5 _ G _ S5 (yes rfl a na)) (fun fl s6 e6 => ?_) fun _ _ z => z.elim
        have gone : ∀ {τ6 : L2.St} {G6 : Hp} {Q : Shared → Prop}, Inv (X.suite a ((a, oq) :: (X.pn ++ pins))) [] τ6 G6 s6 → (∀ s7, Inv X pins (τ6.set i none) G6 s7 → Q s7) →
            wpAny (model X.prog X.w) X.A (do bindName X.env n .none; unbindBehindTheSuite X.env n p') (fun _ s7 => Q s7) X.xe s6 := fun S6 hq => gone_ok (S6.unsuite okX) nd hi hn hq
        cases fl with
        | next => exact let ⟨_, _, S6, q6⟩ := e6; gone S6 fun _ J7 => ⟨_, _, J7, q6⟩
        | brk => exact let ⟨_, _, S6, q6⟩ := e6; gone S6 fun _ J7 => ⟨_, _, J7, q6⟩
        | cont => exact let ⟨_, _, S6, q6⟩ := e6; gone S6 fun _ J7 => ⟨_, _, J7, q6⟩
        | ret u => exact let ⟨_, _, _, S6, r6, q6⟩ := e6; gone S6 fun _ J7 => ⟨_, _, _, J7, r6, q6⟩
  · cases fl with
    | next => exact let ⟨τ, G, J, q⟩ := fin; wpAny_execs_nil ⟨τ, G, J.ofTry okX, q⟩
    | brk => exact let ⟨τ, G, J, q⟩ := fin; ⟨τ, G, J.ofTry okX, q⟩
    | cont => exact let ⟨τ, G, J, q⟩ := fin; ⟨τ, G, J.ofTry okX, q⟩
    | ret u => exact let ⟨v, τ, G, J, r, q⟩ := fin; ⟨v, τ, G, J.ofTry okX, r, q⟩
end
end Td
/-! A tuple made by the program, known to have no own dict: its method index. -/
namespace Td
open PySem PySem.Spec PyProof.Rows L2
def FzT (H : Hp) (a : Addr) (xs : List V) : Prop := ∃ o : Obj, H a = some (.frz o (.tup xs)) ∧ o.dict = none
section
variable {K : PySem.W.Frag} {H H' : Hp} {a D st : Addr} {xs : List V}
theorem FzT.sq (h : FzT H a xs) : SqT K H a xs := by
  obtain ⟨o, e, _⟩ := h
  exact .inl (.inr ⟨o, e⟩)
theorem FzT.same (s : Same H H') (h : FzT H a xs) : FzT H' a xs := let ⟨o, e, d⟩ := h; ⟨o, s _ _ e, d⟩
theorem FzT.keep (k : Keep st H H') (n : a ≠ st) (h : FzT H a xs) : FzT H' a xs := let ⟨o, e, d⟩ := h; ⟨o, k _ _ n e, d⟩
theorem FzT.tk (k : TK H H') (h : FzT H a xs) : FzT H' a xs := let ⟨o, e, d⟩ := h; ⟨o, k.2 _ _ _ e, d⟩
end
section
variable {X : Cx}
/-- tuple(xs), xs a list: a new tuple as it stands -/
theorem call_tuple_ofF : CallR X (.type "tuple") (fun xs H Q => ∃ p ys, xs = [.ref p] ∧ SqL X.K H p ys ∧ ∀ (o : Obj) (l : Addr), o.dict = none → H l = none → Q (.ref l) (upd H l (.frz o (.tup ys)))) := by
  intro pins s σ H xs us Q I r h
  obtain ⟨p, ys, rfl, hq, q⟩ := h
  obtain ⟨u, rfl, rx⟩ := vals1 r
  cases rx
  obtain ⟨its, r', pl, hz⟩ := I.list hq
  have hlen := r'.length
  refine call_tuple_list pl.isList (fun h' kp => ?_) (by simp only [List.size_toArray] <;> omega)
  have I1 : Inv X pins σ H { s with heap := h' } := I.kept (t' := s.toks) kp
  have I2 : Inv X pins σ (upd H h'.objs.size (.frz { cls := .type "tuple", data := .seq its.toArray } (.tup ys))) { s with heap := h'.push { cls := .type "tuple", data := .seq its.toArray } } :=
    I1.laid (t' := s.toks) (fun b o e => Heap.get?_push_of_some _ e) (Nat.le_refl _) (show ObjOk X.prog X.w _ _ _ (.frz _ (.tup ys)) from ⟨Heap.get?_push_size _ rfl, hz, its, r', IsTup.new _ _⟩)
  exact ⟨.ref h'.objs.size, _, I2, rfl, q _ _ rfl (I1.hok.fresh (Nat.le_refl _))⟩
def tTIdx (K : PySem.W.Frag) (to : TE) (t : TA) : TE := fun σ H Q => to σ H fun x H1 => ∃ a us, x = .ref a ∧ FzT H1 a us ∧ t σ H1 fun xs H2 => ∃ p, ∃ ys : List Str, ∃ z j, x = .ref p ∧ xs = [.str z] ∧ SqT K H2 p (ys.map V.str) ∧ ys[j]? = some z ∧ (∀ m, m < j → ys[m]? ≠ some z) ∧ Q (.int (j : Nat)) H2
variable {o e : Expr} {es : List Expr} {to : TE} {t : TA} {apos cpos : Pos}
theorem pe_tidx (ho : PE X o to) (ha : PA X (e :: es) t)
    (hbase : attributeBase o "index" X.env (eval o X.env) = eval o X.env := by rfl)
    (hfew : ((backTo cpos (starEach (e :: es) X.env)).all (fun x => !x.1) && (backToKw cpos (keywordEach [] X.env)).all (fun x => x.1.isSome)
      && decide ((e :: es).length + ([] : List Keyword).length + (if ([] : List Keyword).isEmpty then 0 else 1) < 30)) = true := by rfl)
    (hline : (apos.endLine == cpos.line) = true := by rfl) (hs : starEach (e :: es) X.env = (false, eval e X.env) :: starEach es X.env := by rfl) (hplain : (backTo cpos (starEach es X.env)).any (·.1) = false := by rfl) :
    PE X (.Call (.Attribute o "index" apos) (e :: es) [] cpos) (tTIdx X.K to t) := by
  refine ⟨fun pins s σ H Q I h => ?_⟩
  refine wpAny_Call_method_late hbase hfew hline rfl (thn (ho.run pins s σ H _ I h) fun v s1 ⟨x, H1, I1, r1, q1⟩ => ?_)
  obtain ⟨a, us, rfl, ⟨ob, eo, od⟩, q1⟩ := q1
  cases r1
  obtain ⟨e1, _, its, _, o2, e2, hc, _⟩ := I1.hok a _ eo
  rw [e1] at e2
  cases e2
  have h1 : s1.TypeIs (.ref a) "tuple" := ⟨ob, e1, hc⟩
  have h2 : ∀ b, Value.ref a = .ref b → ∃ ob, s1.heap.get? b = some ob ∧ ob.dict = none := fun b z => by cases z; exact ⟨ob, e1, od⟩
  refine ⟨"tuple", "tuple.index", PySem.F.plainAttrs_tuple, PySem.F.slot_tuple_index, PySem.F.type_tuple_index, h1, h2, ?_⟩
  have hA := ha.run cpos pins s1 σ H1 _ I1 q1
  rw [hs] at hA ⊢
  refine Calls.callWith_builtin (by show (false || (backTo cpos (starEach es X.env)).any (·.1)) = false; rw [hplain] <;> rfl) (Calls.evalArgs_plain ?_)
  exact thn hA fun us s2 ⟨vs, H2, I2, r2, q2⟩ => mt_tup_index pins s2 σ H2 (.ref a) vs (.ref a) us Q I2 rfl r2 q2
end
/-- the parts of a program as they stand, the sources known as a tuple without an own dict -/
def DataX (K : PySem.W.Frag) (H : Hp) (v : V) (ws srcs : List Str) (dd de : PyData) : Prop :=
  ∃ (pa aw as : Addr) (vd ve : V), v = .ref pa ∧ SqT K H pa [.ref aw, .ref as, vd, ve] ∧ SqT K H aw (ws.map V.str) ∧ FzT H as (srcs.map V.str) ∧ Tn K H vd dd ∧ Tn K H ve de
section
variable {K : PySem.W.Frag} {H H' : Hp} {v : V} {ws srcs : List Str} {dd de : PyData}
theorem DataX.tk (k : TK H H') (h : DataX K H v ws srcs dd de) : DataX K H' v ws srcs dd de := by
  obtain ⟨pa, aw, as, vd, ve, e, h1, h2, h3, h4, h5⟩ := h
  exact ⟨pa, aw, as, vd, ve, e, SqT.tk k h1, SqT.tk k h2, h3.tk k, Tn.keep k h4, Tn.keep k h5⟩
theorem DataX.same (s : Same H H') (h : DataX K H v ws srcs dd de) : DataX K H' v ws srcs dd de := h.tk (TK.of_same s)
theorem DataX.tn (h : DataX K H v ws srcs dd de) : Tn K H v (.tuple [.tuple (ws.map PyData.str), .tuple (srcs.map PyData.str), dd, de]) := by
  obtain ⟨pa, aw, as, vd, ve, rfl, h1, h2, h3, h4, h5⟩ := h
  exact .tup h1 (.cons (.tup h2 (TnAll.strs _)) (.cons (.tup h3.sq (TnAll.strs _)) (.cons h4 (.cons h5 .nil))))
end
end Td
/-! What a true run does. -/
namespace Td
open PySem PySem.Spec PyProof.Rows L2
abbrev Env := List (Str × Str)
def kv (L : Env) : List (Key × V) := L.map fun p => (.inr p.1, V.str p.2)
def getE (L : Env) (k : Str) : Option Str := (L.find? fun p => decide (p.1 = k)).map (·.2)
def putE (L : Env) (k v : Str) : Env := if (L.any fun p => decide (p.1 = k)) = true then L.map (fun p => if p.1 = k then (p.1, v) else p) else L ++ [(k, v)]
def sdE (L : Env) (k v : Str) : Env := if (getE L k).isSome = true then L else putE L k v
theorem kv_len (L : Env) : (kv L).length = L.length := List.length_map _
theorem inr_iff (a b : Str) : (Sum.inr a : Key) = .inr b ↔ a = b := ⟨fun h => Sum.inr.inj h, fun h => by rw [h]⟩
theorem kv_get (L : Env) (k : Str) : valV (kv L) (.inr k : Key) = (getE L k).map V.str := by
  unfold valV getE kv
  induction L with
  | nil => rfl
  | cons p r ih =>
    rw [List.map_cons, List.find?_cons, List.find?_cons]
    by_cases h : p.1 = k
    · simp [h]
    · have h2 : ¬ ((Sum.inr p.1 : Key) = .inr k) := fun e => h (Sum.inr.inj e)
      simp only [decide_eq_false h, decide_eq_false h2]
      exact ih
theorem kv_any (L : Env) (k : Str) : ((kv L).any fun q => decide (q.1 = (.inr k : Key))) = L.any fun p => decide (p.1 = k) := by
  unfold kv
  induction L with
  | nil => rfl
  | cons p r ih =>
    rw [List.map_cons, List.any_cons, List.any_cons, ih]
    congr 1
    exact decide_eq_decide.mpr (inr_iff _ _)
theorem kv_put (L : Env) (k v : Str) : putK (kv L) (.inr k : Key) (.str v) = kv (putE L k v) := by
  unfold putK putE
  rw [kv_any]
  by_cases h : (L.any fun p => decide (p.1 = k)) = true
  · rw [if_pos h, if_pos h]
    unfold kv
    rw [List.map_map, List.map_map]
    refine List.map_congr_left fun p _ => ?_
    show (if (Sum.inr p.1 : Key) = .inr k then _ else _) = _
    by_cases e : p.1 = k
    · have e2 : (Sum.inr p.1 : Key) = .inr k := by rw [e]
      rw [if_pos e2]
      show _ = ((Sum.inr (if p.1 = k then (p.1, v) else p).1 : Key), V.str (if p.1 = k then (p.1, v) else p).2)
      rw [if_pos e]
    · have e2 : ¬ (Sum.inr p.1 : Key) = .inr k := fun h => e (Sum.inr.inj h)
      rw [if_neg e2]
      show _ = ((Sum.inr (if p.1 = k then (p.1, v) else p).1 : Key), V.str (if p.1 = k then (p.1, v) else p).2)
      rw [if_neg e]
  · rw [if_neg h, if_neg h]
    unfold kv
    rw [List.map_append]
    rfl
theorem putE_len (L : Env) (k v : Str) : (putE L k v).length ≤ L.length + 1 := by
  unfold putE
  split
  · rw [List.length_map]; omega
  · rw [List.length_append]; exact Nat.le_refl _
theorem sdE_len (L : Env) (k v : Str) : (sdE L k v).length ≤ L.length + 1 := by
  unfold sdE
  split
  · omega
  · exact putE_len ..
theorem getE_any (k : Str) : ∀ L : Env, (L.any fun p => decide (p.1 = k)) = (getE L k).isSome
  | [] => rfl
  | p :: r => by
    rw [List.any_cons]
    unfold getE
    rw [List.find?_cons]
    by_cases e : p.1 = k
    · simp [e]
    · simp only [decide_eq_false e, Bool.false_or]
      exact getE_any k r
theorem getE_cons (p : Str × Str) (r : Env) (k : Str) : getE (p :: r) k = if p.1 = k then some p.2 else getE r k := by
  unfold getE
  rw [List.find?_cons]
  by_cases e : p.1 = k
  · simp [e]
  · simp [e]
theorem getE_put (L : Env) (k v j : Str) : getE (putE L k v) j = if j = k then some v else getE L j := by
  unfold putE
  split
  · rename_i h
    induction L with
    | nil => simp at h
    | cons p r ih =>
      rw [List.map_cons, getE_cons, getE_cons]
      by_cases e : p.1 = k
      · rw [if_pos e]
        by_cases ej : j = k
        · subst ej; simp [e]
        · have : ¬ p.1 = j := fun h => ej (by rw [← h, e])
          rw [if_neg this, if_neg this, if_neg ej]
          by_cases hr : (r.any fun p => decide (p.1 = k)) = true
          · rw [ih hr, if_neg ej]
          · have hr2 : r.map (fun p => if p.1 = k then (p.1, v) else p) = r := by
              conv => rhs; rw [← List.map_id r]
              refine List.map_congr_left fun q hq => ?_
              rw [if_neg]
              · rfl
              · intro e2
                exact hr (List.any_eq_true.mpr ⟨q, hq, decide_eq_true e2⟩)
            rw [hr2]
      · rw [if_neg e]
        have hr : (r.any fun p => decide (p.1 = k)) = true := by
          rw [List.any_cons, decide_eq_false e, Bool.false_or] at h
          exact h
        rw [ih hr]
        by_cases ej : p.1 = j
        · rw [if_pos ej, if_pos ej, if_neg (fun h => e (by rw [ej, h]))]
        · rw [if_neg ej, if_neg ej]
  · rename_i h
    have hn : getE L k = none := by
      rw [getE_any] at h
      cases e : getE L k with
      | none => rfl
      | some z => rw [e] at h; exact absurd rfl h
    induction L with
    | nil => rw [List.nil_append, getE_cons]; by_cases ej : j = k
             · subst ej; simp
             · rw [if_neg (fun e => ej e.symm), if_neg ej]
    | cons p r ih =>
      rw [List.cons_append, getE_cons, getE_cons]
      rw [getE_cons] at hn
      by_cases e : p.1 = k
      · rw [if_pos e] at hn; cases hn
      · rw [if_neg e] at hn
        have hr : ¬ (r.any fun p => decide (p.1 = k)) = true := by rw [getE_any, hn]; simp
        rw [ih hr hn]
        by_cases ej : p.1 = j
        · rw [if_pos ej, if_pos ej, if_neg (fun h => e (by rw [ej, h]))]
        · rw [if_neg ej, if_neg ej]
/-! ### a run -/
structure RS where
  slots : Env
  noted : Env
  peeked : Env
  said : List Str
  written : Env
  given : Str
def RS.word (st : RS) (d s : Str) : Str := (getE st.slots s).getD d
mutual
def runR (kn : Str → Str) (d : Str) : Row → RS → RS × Bool
  | .rd pk c s, st => ({ st with slots := putE st.slots s (kn c), noted := (if pk then st.noted else sdE st.noted c (kn c)), peeked := (if pk then sdE st.peeked c (kn c) else st.peeked) }, false)
  | .put s u, st => ({ st with slots := putE st.slots s u }, false)
  | .give s, st => ({ st with given := st.word d s }, true)
  | .say s, st => ({ st with said := st.said ++ [st.word d s] }, false)
  | .wr c s, st => ({ st with written := st.written ++ [(c, st.word d s)] }, false)
  | .ite s u y n, st => if st.word d s = u then runRs kn d y st else runRs kn d n st
def runRs (kn : Str → Str) (d : Str) : List Row → RS → RS × Bool
  | [], st => (st, false)
  | r :: rs, st => if (runR kn d r st).2 = true then ((runR kn d r st).1, true) else runRs kn d rs (runR kn d r st).1
end
theorem runRs_yes {kn : Str → Str} {d : Str} {r : Row} {st : RS} (rs : List Row) (h : (runR kn d r st).2 = true) : runRs kn d (r :: rs) st = ((runR kn d r st).1, true) := by simp only [runRs, if_pos h]
theorem runRs_no {kn : Str → Str} {d : Str} {r : Row} {st : RS} (rs : List Row) (h : ¬ (runR kn d r st).2 = true) : runRs kn d (r :: rs) st = runRs kn d rs (runR kn d r st).1 := by simp only [runRs, if_neg h]
theorem runRs_append (kn : Str → Str) (d : Str) : ∀ (rs ts : List Row) (st : RS), runRs kn d (rs ++ ts) st = if (runRs kn d rs st).2 = true then runRs kn d rs st else runRs kn d ts (runRs kn d rs st).1
  | [], ts, st => by
    show runRs kn d ts st = _
    simp [runRs]
  | r :: rs, ts, st => by
    show runRs kn d (r :: (rs ++ ts)) st = _
    by_cases h : (runR kn d r st).2 = true
    · simp only [runRs_yes _ h, if_true]
    · simp only [runRs_no _ h]
      exact runRs_append kn d rs ts _
theorem runRs_next {kn : Str → Str} {d : Str} {rs : List Row} {st : RS} {i : Nat} {r : Row} (h : rs[i]? = some r) (hf : (runRs kn d (rs.take i) st).2 = false) :
    runRs kn d (rs.take (i + 1)) st = runR kn d r (runRs kn d (rs.take i) st).1 := by
  rw [take_more h, runRs_append, hf]
  simp only [runRs, if_neg (Bool.false_ne_true)]
  by_cases h2 : (runR kn d r (runRs kn d (rs.take i) st).1).2 = true
  · rw [if_pos h2]
    exact Prod.ext rfl h2.symm
  · rw [if_neg h2]
    exact Prod.ext rfl (by simpa using h2)
theorem runRs_stop {kn : Str → Str} {d : Str} {rs : List Row} {st : RS} {i : Nat} {r : Row} (h : rs[i]? = some r) (hf : (runRs kn d (rs.take i) st).2 = false)
    (ht : (runR kn d r (runRs kn d (rs.take i) st).1).2 = true) : runRs kn d rs st = runR kn d r (runRs kn d (rs.take i) st).1 := by
  have e : rs = rs.take (i + 1) ++ rs.drop (i + 1) := (List.take_append_drop _ _).symm
  have e2 := runRs_next h hf
  rw [e, runRs_append, ← e, e2, if_pos ht]
/-- no list of the run is long -/
structure RS.Few (st : RS) (n : Nat) : Prop where
  sl : st.slots.length ≤ n
  no : st.noted.length ≤ n
  pe : st.peeked.length ≤ n
  sa : st.said.length ≤ n
  wr : st.written.length ≤ n
theorem RS.Few.mono {st : RS} {n m : Nat} (h : st.Few n) (l : n ≤ m) : st.Few m := ⟨Nat.le_trans h.sl l, Nat.le_trans h.no l, Nat.le_trans h.pe l, Nat.le_trans h.sa l, Nat.le_trans h.wr l⟩
mutual
theorem few_R (kn : Str → Str) (d : Str) : ∀ (r : Row) (st : RS) (n : Nat), st.Few n → (runR kn d r st).1.Few (n + Td.cnt r)
  | .rd pk c s, st, n, h => by
    have h1 := putE_len st.slots s (kn c)
    have h2 := sdE_len st.noted c (kn c)
    have h3 := sdE_len st.peeked c (kn c)
    have a := h.sl; have b := h.no; have c' := h.pe; have d' := h.sa; have e := h.wr
    cases pk <;> simp only [runR, Td.cnt] <;> refine ⟨?_, ?_, ?_, ?_, ?_⟩ <;> simp <;> omega
  | .put s u, st, n, h => by
    have h1 := putE_len st.slots s u
    have a := h.sl; have b := h.no; have c' := h.pe; have d' := h.sa; have e := h.wr
    simp only [runR, Td.cnt]; refine ⟨?_, ?_, ?_, ?_, ?_⟩ <;> simp <;> omega
  | .give s, st, n, h => by
    have a := h.sl; have b := h.no; have c' := h.pe; have d' := h.sa; have e := h.wr
    simp only [runR, Td.cnt]; refine ⟨?_, ?_, ?_, ?_, ?_⟩ <;> simp <;> omega
  | .say s, st, n, h => by
    have a := h.sl; have b := h.no; have c' := h.pe; have d' := h.sa; have e := h.wr
    simp only [runR, Td.cnt]; refine ⟨?_, ?_, ?_, ?_, ?_⟩ <;> simp <;> omega
  | .wr c s, st, n, h => by
    have a := h.sl; have b := h.no; have c' := h.pe; have d' := h.sa; have e := h.wr
    simp only [runR, Td.cnt]; refine ⟨?_, ?_, ?_, ?_, ?_⟩ <;> simp <;> omega
  | .ite s u y m, st, n, h => by
    simp only [runR, Td.cnt]
    split
    · exact (few_Rs kn d y st n h).mono (by omega)
    · exact (few_Rs kn d m st n h).mono (by omega)
theorem few_Rs (kn : Str → Str) (d : Str) : ∀ (rs : List Row) (st : RS) (n : Nat), st.Few n → (runRs kn d rs st).1.Few (n + cnts rs)
  | [], st, n, h => by simp only [runRs]; exact h.mono (Nat.le_add_right _ _)
  | r :: rs, st, n, h => by
    have h1 := few_R kn d r st n h
    simp only [runRs, cnts]
    split
    · exact h1.mono (by omega)
    · exact (few_Rs kn d rs _ _ h1).mono (by omega)
end
/-! ### the run's object -/
structure RA where
  ra : Addr
  kd : Addr
  ps : Addr
  pn : Addr
  pp : Addr
  pd : Addr
  pw : Addr
  d : Str
def RA.fldsV (A : RA) (v : V) : List (Str × V) := [("noted", .ref A.pn), ("peeked", .ref A.pp), ("said", .ref A.pd), ("written", .ref A.pw), ("given", v), ("default", .str A.d), ("known", .ref A.kd), ("slots", .ref A.ps)]
def RA.flds (A : RA) (g : Str) : List (Str × V) := A.fldsV (.str g)
def wrD (p : Str × Str) : PyData := .tuple [.str p.1, .str p.2]
structure RunAt (K : PySem.W.Frag) (C : Addr) (A : RA) (H0 H : Hp) (st : RS) : Prop where
  same : Same H0 H
  f0 : H0 A.ra = none
  f1 : H0 A.ps = none
  f2 : H0 A.pn = none
  f3 : H0 A.pp = none
  f4 : H0 A.pd = none
  f5 : H0 A.pw = none
  n1 : A.ps ≠ A.pn
  n2 : A.ps ≠ A.pp
  n3 : A.pn ≠ A.pp
  n4 : A.pd ≠ A.pw
  ob : ∃ dx, H A.ra = some (.ins C dx (A.flds st.given))
  sl : H A.ps = some (.dK (kv st.slots))
  no : H A.pn = some (.dK (kv st.noted))
  pe : H A.pp = some (.dK (kv st.peeked))
  sa : H A.pd = some (.lst (st.said.map V.str))
  wr : ∃ xs, H A.pw = some (.lst xs) ∧ TnAll K H xs (st.written.map wrD)
section
variable {K : PySem.W.Frag} {C : Addr} {A : RA} {H0 H H' : Hp} {st : RS}
theorem own_same {H0 H : Hp} {p : Addr} {o : HO} (k : Same H0 H) (h : H0 p = none) : Same H0 (upd H p o) := fun b u e => by
  rw [upd_ne (ne_of_none e h)]; exact k b u e
theorem RunAt.go (h : RunAt K C A H0 H st) (s : Same H H') : RunAt K C A H0 H' st := by
  obtain ⟨dx, e⟩ := h.ob
  obtain ⟨xs, e1, e2⟩ := h.wr
  exact ⟨h.same.trans s, h.f0, h.f1, h.f2, h.f3, h.f4, h.f5, h.n1, h.n2, h.n3, h.n4, ⟨dx, s _ _ e⟩, s _ _ h.sl, s _ _ h.no, s _ _ h.pe, s _ _ h.sa, ⟨xs, s _ _ e1, TnAll.keep (TK.of_same s) e2⟩⟩
theorem RunAt.slots (h : RunAt K C A H0 H st) (L : Env) : RunAt K C A H0 (upd H A.ps (.dK (kv L))) { st with slots := L } := by
  obtain ⟨dx, e⟩ := h.ob
  obtain ⟨xs, e1, e2⟩ := h.wr
  exact ⟨own_same h.same h.f1, h.f0, h.f1, h.f2, h.f3, h.f4, h.f5, h.n1, h.n2, h.n3, h.n4, ⟨dx, by rw [upd_ne (ne_of e h.sl (by intro z; cases z))]; exact e⟩, upd_same, by rw [upd_ne (Ne.symm h.n1)]; exact h.no, by rw [upd_ne (Ne.symm h.n2)]; exact h.pe,
    by rw [upd_ne (ne_of h.sa h.sl (by intro z; cases z))]; exact h.sa, ⟨xs, by rw [upd_ne (ne_of e1 h.sl (by intro z; cases z))]; exact e1, TnAll.keep (TK.upd (by rw [h.sl]; trivial)) e2⟩⟩
theorem RunAt.noted (h : RunAt K C A H0 H st) (L : Env) : RunAt K C A H0 (upd H A.pn (.dK (kv L))) { st with noted := L } := by
  obtain ⟨dx, e⟩ := h.ob
  obtain ⟨xs, e1, e2⟩ := h.wr
  exact ⟨own_same h.same h.f2, h.f0, h.f1, h.f2, h.f3, h.f4, h.f5, h.n1, h.n2, h.n3, h.n4, ⟨dx, by rw [upd_ne (ne_of e h.no (by intro z; cases z))]; exact e⟩, by rw [upd_ne h.n1]; exact h.sl, upd_same, by rw [upd_ne (Ne.symm h.n3)]; exact h.pe,
    by rw [upd_ne (ne_of h.sa h.no (by intro z; cases z))]; exact h.sa, ⟨xs, by rw [upd_ne (ne_of e1 h.no (by intro z; cases z))]; exact e1, TnAll.keep (TK.upd (by rw [h.no]; trivial)) e2⟩⟩
theorem RunAt.peeked (h : RunAt K C A H0 H st) (L : Env) : RunAt K C A H0 (upd H A.pp (.dK (kv L))) { st with peeked := L } := by
  obtain ⟨dx, e⟩ := h.ob
  obtain ⟨xs, e1, e2⟩ := h.wr
  exact ⟨own_same h.same h.f3, h.f0, h.f1, h.f2, h.f3, h.f4, h.f5, h.n1, h.n2, h.n3, h.n4, ⟨dx, by rw [upd_ne (ne_of e h.pe (by intro z; cases z))]; exact e⟩, by rw [upd_ne h.n2]; exact h.sl, by rw [upd_ne h.n3]; exact h.no, upd_same,
    by rw [upd_ne (ne_of h.sa h.pe (by intro z; cases z))]; exact h.sa, ⟨xs, by rw [upd_ne (ne_of e1 h.pe (by intro z; cases z))]; exact e1, TnAll.keep (TK.upd (by rw [h.pe]; trivial)) e2⟩⟩
theorem RunAt.say (h : RunAt K C A H0 H st) (L : List Str) : RunAt K C A H0 (upd H A.pd (.lst (L.map V.str))) { st with said := L } := by
  obtain ⟨dx, e⟩ := h.ob
  obtain ⟨xs, e1, e2⟩ := h.wr
  exact ⟨own_same h.same h.f4, h.f0, h.f1, h.f2, h.f3, h.f4, h.f5, h.n1, h.n2, h.n3, h.n4, ⟨dx, by rw [upd_ne (ne_of e h.sa (by intro z; cases z))]; exact e⟩, by rw [upd_ne (ne_of h.sl h.sa (by intro z; cases z))]; exact h.sl, by rw [upd_ne (ne_of h.no h.sa (by intro z; cases z))]; exact h.no,
    by rw [upd_ne (ne_of h.pe h.sa (by intro z; cases z))]; exact h.pe, upd_same, ⟨xs, by rw [upd_ne (Ne.symm h.n4)]; exact e1, TnAll.keep (TK.upd (by rw [h.sa]; trivial)) e2⟩⟩
theorem RunAt.write (h : RunAt K C A H0 H st) {xs : List V} {L : Env} (e1 : H A.pw = some (.lst xs)) {ys : List V} (e2 : TnAll K H ys (L.map wrD)) : RunAt K C A H0 (upd H A.pw (.lst ys)) { st with written := L } := by
  obtain ⟨dx, e⟩ := h.ob
  exact ⟨own_same h.same h.f5, h.f0, h.f1, h.f2, h.f3, h.f4, h.f5, h.n1, h.n2, h.n3, h.n4, ⟨dx, by rw [upd_ne (ne_of e e1 (by intro z; cases z))]; exact e⟩, by rw [upd_ne (ne_of h.sl e1 (by intro z; cases z))]; exact h.sl, by rw [upd_ne (ne_of h.no e1 (by intro z; cases z))]; exact h.no,
    by rw [upd_ne (ne_of h.pe e1 (by intro z; cases z))]; exact h.pe, by rw [upd_ne h.n4]; exact h.sa, ⟨ys, upd_same, TnAll.keep (TK.upd (by rw [e1]; trivial)) e2⟩⟩
theorem RunAt.give (h : RunAt K C A H0 H st) (g : Str) {dx : Addr} (e : H A.ra = some (.ins C dx (A.flds st.given))) : RunAt K C A H0 (upd H A.ra (.ins C dx (A.flds g))) { st with given := g } := by
  obtain ⟨xs, e1, e2⟩ := h.wr
  exact ⟨own_same h.same h.f0, h.f0, h.f1, h.f2, h.f3, h.f4, h.f5, h.n1, h.n2, h.n3, h.n4, ⟨dx, upd_same⟩, by rw [upd_ne (ne_of h.sl e (by intro z; cases z))]; exact h.sl, by rw [upd_ne (ne_of h.no e (by intro z; cases z))]; exact h.no,
    by rw [upd_ne (ne_of h.pe e (by intro z; cases z))]; exact h.pe, by rw [upd_ne (ne_of h.sa e (by intro z; cases z))]; exact h.sa, ⟨xs, by rw [upd_ne (ne_of e1 e (by intro z; cases z))]; exact e1, TnAll.keep (TK.upd (by rw [e]; trivial)) e2⟩⟩
end
section
variable (A : RA) (g g' : Str)
theorem fl_default : (A.flds g).lookup ("default" : Str) = some (.str A.d) := by kernel_rfl
theorem fl_known : (A.flds g).lookup ("known" : Str) = some (.ref A.kd) := by kernel_rfl
theorem fl_slots : (A.flds g).lookup ("slots" : Str) = some (.ref A.ps) := by kernel_rfl
theorem fl_noted : (A.flds g).lookup ("noted" : Str) = some (.ref A.pn) := by kernel_rfl
theorem fl_peeked : (A.flds g).lookup ("peeked" : Str) = some (.ref A.pp) := by kernel_rfl
theorem fl_said : (A.flds g).lookup ("said" : Str) = some (.ref A.pd) := by kernel_rfl
theorem fl_written : (A.flds g).lookup ("written" : Str) = some (.ref A.pw) := by kernel_rfl
theorem fl_given : (A.flds g).lookup ("given" : Str) = some (.str g) := by kernel_rfl
theorem fl_none : (A.flds g).lookup ("word_in" : Str) = none := by kernel_rfl
theorem fl_none2 (v : V) : (A.fldsV v).lookup ("parts" : Str) = none := by kernel_rfl
theorem fv_noted (v : V) : (A.fldsV v).lookup ("noted" : Str) = some (.ref A.pn) := by kernel_rfl
theorem fv_peeked (v : V) : (A.fldsV v).lookup ("peeked" : Str) = some (.ref A.pp) := by kernel_rfl
theorem fv_said (v : V) : (A.fldsV v).lookup ("said" : Str) = some (.ref A.pd) := by kernel_rfl
theorem fv_written (v : V) : (A.fldsV v).lookup ("written" : Str) = some (.ref A.pw) := by kernel_rfl
theorem fv_given (v : V) : (A.fldsV v).lookup ("given" : Str) = some v := by kernel_rfl
theorem fl_giveV (v : V) : putF "given" v (A.flds g) = A.fldsV v := by kernel_rfl
theorem fl_give : putF "given" (.str g') (A.flds g) = A.flds g' := by kernel_rfl
end
end Td
/-! == of two dicts that hold data. -/
namespace Td
open PySem PySem.Spec PyProof.Rows L2
/-- one dict's values against the other's -/
def hitsV (K : PySem.W.Frag) (H : Hp) (ls : List (Key × V)) : List (Key × V) → Bool → Prop
  | [], r => r = true
  | p :: ps, r => ∃ (u : V) (d e : PyData) (r' : Bool), valV ls p.1 = some u ∧ Dp K H p.2 d ∧ Dp K H u e ∧ d.canLay0 = true ∧ e.canLay0 = true ∧ d.depth ≤ 60 ∧ hitsV K H ls ps r' ∧ r = (PyData.eqv d e && r')
def rEqK (K : PySem.W.Frag) : R2 := fun x y H Q => ∃ (a b : Addr) (ks ls : List (Key × V)) (r : Bool), x = .ref a ∧ y = .ref b ∧ H a = some (.dK ks) ∧ H b = some (.dK ls) ∧ ks.length = ls.length ∧ hitsV K H ls ks r ∧ Q (.bl r) H
section
variable {X : Cx} {pins : List (Addr × Obj)} {σ : L2.St} {H : Hp} {s : Shared}
theorem hits_data (I : Inv X pins σ H s) {A : Around} (hu : A.units + 60 < cLine) {ls : List (Key × V)} {vb : List (Key × Value)} (rb : KV ls vb) : ∀ {ks : List (Key × V)} {va : List (Key × Value)} {r : Bool}, KV ks va → hitsV X.K H ls ks r → PySem.W.KeqHitsP X.prog X.w A s vb va r
  | [], _, r, .nil, h => by
    have h : r = true := h
    subst h
    exact .nil
  | p :: ps, _, r, .cons (b := q) h t, hp => by
    obtain ⟨u, d, e, r', e1, d1, d2, c1, c2, l, hr, rfl⟩ := hp
    obtain ⟨h1, h2⟩ := h
    have rr : RelO (some u) (valueAt vb p.1) := by rw [← e1]; exact rb.val p.1
    obtain ⟨y, hy, ry⟩ := rr.some_of
    obtain ⟨key, v⟩ := q
    have h1' : p.1 = key := h1
    rw [h1'] at hy
    obtain ⟨as, g1⟩ := Dp.reads I d p.2 v d1 h2
    obtain ⟨bs, g2⟩ := Dp.reads I e u y d2 ry
    exact .hit hy (SeqAt.EqAt.eqP (SeqAt.eqAt_reads d e A s v y as bs g1 g2 c1 c2 (by have := Nat.min_le_left d.depth e.depth; omega))) (hits_data I hu rb t hr)
theorem op_eqK (hu : X.A.units + 64 < cLine) : OpR X (compareOp .Eq) (rEqK X.K) := by
  intro pins s σ H x y v u Q I rx ry h
  obtain ⟨a, b, ks, ls, r, rfl, rfl, ea, eb, hl, hh, q⟩ := h
  obtain rfl : v = .ref a := rx
  obtain rfl : u = .ref b := ry
  obtain ⟨_, ya, va, ra, da⟩ := dk_of I.hok ea
  obtain ⟨_, yb, vb, rb, db⟩ := dk_of I.hok eb
  refine PySem.W.rcP_dicts (knd := mixKind X.prog X.w) (r := r) ya yb da db (by omega) (fun _ => hits_data I (A := X.A.in1) (by show X.A.units + 1 + 60 < cLine; omega) rb ra hh) _ _ ?_
  have e : (va.length == vb.length && r) = r := by
    have h1 : va.length = vb.length := by rw [← Paired.length ra, ← Paired.length rb, hl]
    rw [h1]; simp
  rw [e]
  exact ⟨.bl r, H, I, rfl, q⟩
end
/-! ### the data of an answer -/
theorem wr_eqv (p q : Str × Str) : PyData.eqv (wrD p) (wrD q) = decide (p = q) := by
  obtain ⟨a, b⟩ := p
  obtain ⟨c, d⟩ := q
  unfold wrD
  simp only [PyData.eqv, PyData.eqvAll, Prod.mk.injEq, Bool.and_true, Bool.decide_and]
  congr 1
theorem env_eqvAll : ∀ L M : Env, PyData.eqvAll (L.map wrD) (M.map wrD) = decide (L = M)
  | [], [] => rfl
  | [], _ :: _ => rfl
  | _ :: _, [] => rfl
  | p :: L, q :: M => by
    rw [List.map_cons, List.map_cons]
    simp only [PyData.eqvAll, wr_eqv, env_eqvAll L M, List.cons.injEq, Bool.decide_and]
theorem strs_eqvAll : ∀ L M : List Str, PyData.eqvAll (L.map PyData.str) (M.map PyData.str) = decide (L = M)
  | [], [] => rfl
  | [], _ :: _ => rfl
  | _ :: _, [] => rfl
  | p :: L, q :: M => by
    rw [List.map_cons, List.map_cons]
    simp only [PyData.eqvAll, PyData.eqv, strs_eqvAll L M, List.cons.injEq, Bool.decide_and]
    congr 1
theorem nm_ok {z : Str} (h : isNm z = true) : PyData.strOk z = true := by
  unfold isNm at h
  simp only [Bool.and_eq_true] at h
  have h2 := h.2
  unfold PyData.strOk
  rw [← Array.all_toList]
  rw [List.all_eq_true] at h2 ⊢
  intro c hc
  have := h2 c hc
  unfold lowc at this
  simp only [Bool.and_eq_true, decide_eq_true_eq] at this
  exact decide_eq_true (by omega)
theorem env_lay : ∀ L : Env, (∀ p ∈ L, isNm p.1 = true ∧ isNm p.2 = true) → PyData.canLayAll0 (L.map wrD) = true
  | [], _ => rfl
  | p :: L, h => by
    have h1 := h p List.mem_cons_self
    have h2 := env_lay L fun q hq => h q (List.mem_cons_of_mem _ hq)
    rw [List.map_cons]
    unfold wrD at h2 ⊢
    simp only [PyData.canLayAll0, PyData.canLay0, nm_ok h1.1, nm_ok h1.2, h2]
    rfl
theorem strs_lay : ∀ L : List Str, (∀ z ∈ L, isNm z = true) → PyData.canLayAll0 (L.map PyData.str) = true
  | [], _ => rfl
  | p :: L, h => by
    have h2 := strs_lay L fun q hq => h q (List.mem_cons_of_mem _ hq)
    rw [List.map_cons]
    simp only [PyData.canLayAll0, PyData.canLay0, nm_ok (h p List.mem_cons_self), h2]
    rfl
theorem env_deep : ∀ L : Env, PyData.depthAll (L.map wrD) ≤ 2
  | [] => by simp [PyData.depthAll]
  | p :: L => by
    rw [List.map_cons]
    unfold wrD
    have := env_deep L
    unfold wrD at this
    simp only [PyData.depthAll, PyData.depth]
    omega
theorem strs_deep : ∀ L : List Str, PyData.depthAll (L.map PyData.str) ≤ 2
  | [] => by simp [PyData.depthAll]
  | p :: L => by
    rw [List.map_cons]
    have := strs_deep L
    simp only [PyData.depthAll, PyData.depth]
    omega
/-! ### all that a run holds are names -/
structure RS.Nm (st : RS) : Prop where
  sl : ∀ p ∈ st.slots, isNm p.2 = true
  no : ∀ p ∈ st.noted, isNm p.1 = true ∧ isNm p.2 = true
  pe : ∀ p ∈ st.peeked, isNm p.1 = true ∧ isNm p.2 = true
  sa : ∀ z ∈ st.said, isNm z = true
  wr : ∀ p ∈ st.written, isNm p.1 = true ∧ isNm p.2 = true
  gi : isNm st.given = true
structure ScNm (S : Sc) (kn : Str → Str) : Prop where
  rd : ∀ c ∈ S.readable, isNm c = true ∧ isNm (kn c) = true
  so : ∀ c ∈ S.sources, isNm c = true
  wo : ∀ c ∈ S.words, isNm c = true
theorem put_mem {L : Env} {k v : Str} {p : Str × Str} (h : p ∈ putE L k v) : p ∈ L ∨ (p.1 = k ∧ p.2 = v) := by
  unfold putE at h
  split at h
  · obtain ⟨q, hq, e⟩ := List.mem_map.mp h
    split at e
    · rename_i e2
      subst e
      exact .inr ⟨e2, rfl⟩
    · subst e; exact .inl hq
  · rcases List.mem_append.mp h with h | h
    · exact .inl h
    · rw [List.mem_singleton] at h
      subst h
      exact .inr ⟨rfl, rfl⟩
theorem sd_mem {L : Env} {k v : Str} {p : Str × Str} (h : p ∈ sdE L k v) : p ∈ L ∨ (p.1 = k ∧ p.2 = v) := by
  unfold sdE at h
  split at h
  · exact .inl h
  · exact put_mem h
theorem get_has {L : Env} {k u : Str} (h : getE L k = some u) : ∃ p ∈ L, p.2 = u := by
  unfold getE at h
  obtain ⟨p, hp, e⟩ := Option.map_eq_some_iff.mp h
  exact ⟨p, List.mem_of_find?_eq_some hp, e⟩
theorem word_nm {st : RS} {d s : Str} (h : st.Nm) (hd : isNm d = true) : isNm (st.word d s) = true := by
  unfold RS.word
  cases e : getE st.slots s with
  | none => exact hd
  | some u =>
    obtain ⟨p, hp, rfl⟩ := get_has e
    exact h.sl p hp
mutual
theorem nm_R {S : Sc} {kn : Str → Str} {d : Str} (hS : ScNm S kn) (hd : isNm d = true) : ∀ (r : Row) (dep : Nat) (st : RS), okR S dep r → st.Nm → (runR kn d r st).1.Nm
  | .rd pk c s, dep, st, ok, h => by
    unfold okR at ok
    obtain ⟨c1, c2⟩ := hS.rd c ok.2.1
    have hs : ∀ p ∈ putE st.slots s (kn c), isNm p.2 = true := fun p hp => by
      rcases put_mem hp with q | ⟨_, e⟩
      · exact h.sl p q
      · rw [e]; exact c2
    have hg : ∀ L : Env, (∀ p ∈ L, isNm p.1 = true ∧ isNm p.2 = true) → ∀ p ∈ sdE L c (kn c), isNm p.1 = true ∧ isNm p.2 = true := fun L hL p hp => by
      rcases sd_mem hp with q | ⟨e1, e2⟩
      · exact hL p q
      · rw [e1, e2]; exact ⟨c1, c2⟩
    simp only [runR]
    cases pk
    · exact ⟨hs, hg _ h.no, h.pe, h.sa, h.wr, h.gi⟩
    · exact ⟨hs, h.no, hg _ h.pe, h.sa, h.wr, h.gi⟩
  | .put s u, dep, st, ok, h => by
    unfold okR at ok
    simp only [runR]
    refine ⟨fun p hp => ?_, h.no, h.pe, h.sa, h.wr, h.gi⟩
    rcases put_mem hp with q | ⟨_, e⟩
    · exact h.sl p q
    · rw [e]; exact hS.wo u ok.2
  | .give s, dep, st, ok, h => by
    simp only [runR]
    exact ⟨h.sl, h.no, h.pe, h.sa, h.wr, word_nm h hd⟩
  | .say s, dep, st, ok, h => by
    simp only [runR]
    refine ⟨h.sl, h.no, h.pe, fun z hz => ?_, h.wr, h.gi⟩
    rcases List.mem_append.mp hz with q | q
    · exact h.sa z q
    · rw [List.mem_singleton.mp q]; exact word_nm h hd
  | .wr c s, dep, st, ok, h => by
    unfold okR at ok
    simp only [runR]
    refine ⟨h.sl, h.no, h.pe, h.sa, fun p hp => ?_, h.gi⟩
    rcases List.mem_append.mp hp with q | q
    · exact h.wr p q
    · rw [List.mem_singleton.mp q]; exact ⟨hS.so c ok.2.1, word_nm h hd⟩
  | .ite s u y n, dep, st, ok, h => by
    unfold okR at ok
    simp only [runR]
    split
    · exact nm_Rs hS hd y (dep + 1) st ok.2.2.2.1 h
    · exact nm_Rs hS hd n (dep + 1) st ok.2.2.2.2 h
theorem nm_Rs {S : Sc} {kn : Str → Str} {d : Str} (hS : ScNm S kn) (hd : isNm d = true) : ∀ (rs : List Row) (dep : Nat) (st : RS), okRs S dep rs → st.Nm → (runRs kn d rs st).1.Nm
  | [], dep, st, ok, h => by simp only [runRs]; exact h
  | r :: rs, dep, st, ok, h => by
    unfold okRs at ok
    have h1 := nm_R hS hd r dep st ok.1 h
    by_cases hb : (runR kn d r st).2 = true
    · rw [runRs_yes _ hb]; exact h1
    · rw [runRs_no _ hb]; exact nm_Rs hS hd rs dep _ ok.2 h1
end
end Td
/-! dict(zip(t, u)) of two tuples as long as each other. -/
namespace Td
open PySem
section
variable {prog : Program} {w : World} {A : Around} {E : Value → Shared → Prop} {s : Shared} {z TI TO T i1 i2 : Addr} {f : Bool} {oT : Obj} {fp1 fp2 : List Addr} {n1 n2 i : Nat} {P1 P2 : Nat → Value → Prop} {St1 St2 : Nat → Heap → Prop}
/-- the next pair, the one ahead still held -/
theorem held_item {Q : Value → Shared → Prop} (S : ZipSep2 z TI TO i1 i2 fp1 fp2) (D1 : Draws prog w A i1 fp1 n1 P1 St1) (D2 : Draws prog w A i2 fp2 n2 P2 St2)
    (hz : IsZipHeld s.heap z TI TO T f) (hT : s.heap.get? T = some oT) (hTI : IsTupOf2 s.heap TI (.ref i1) (.ref i2)) (u1 : St1 i s.heap) (u2 : St2 i s.heap) (l1 : i < n1) (l2 : i < n2)
    (hQ : ∀ x y h' tk, P1 i x → P2 i y → IsZipHeld h' z TI TO T true → St1 (i + 1) h' → St2 (i + 1) h' → IsTupOf2 h' s.heap.objs.size x y →
      (∀ c o, c ≠ z → c ≠ i1 → c ≠ i2 → s.heap.get? c = some o → h'.get? c = some o) → Q (.ref s.heap.objs.size) { s with heap := h', toks := tk }) :
    wpAny (model prog w) A (Builtin.«zip.__next__» ⟨[.ref z], []⟩) (fun fin s' => ∃ v, fin = .done (.ret v) ∧ Q v s') E s := by
  obtain ⟨h0, gl, dd, t0, ow⟩ := s
  show wpAny _ _ (field (.ref z) 2 >>= _) _ _ _
  refine wpAny_bind (wpAny_field hz rfl (x := .bool false) rfl ?_)
  show wpAny _ _ (field (.ref z) 3 >>= _) _ _ _
  refine wpAny_bind (wpAny_field hz rfl (x := .ref TI) rfl (wpAny_bind (wpAny_seqItems hTI rfl ?_)))
  show wpAny _ _ (Builtin.SmallTypes.ownedTupleIsFree (.ref z) >>= _) _ _ _
  refine wpAny_bind (wpAny_tupleHeld_zip hz hT fun h1 z1 k1 => ?_)
  replace k1 : Heap.SameBut z h0 h1 := k1
  simp only [Bool.false_eq_true, if_false]
  refine wpAny_bind ?_
  rw [← Array.forIn_toList]
  simp only [List.forIn_cons, List.forIn_nil]
  refine wpAny_bind (wpAny_bind (wpAny_holding ?_))
  show wpAny _ _ (Builtin.SmallTypes.nextOf (.ref i1) >>= _) _ _ ⟨h1, gl, dd, t0, ow⟩
  refine wpAny_bind (D1.item i _ _ _ l1 (D1.over u1 k1 S.zf1) fun x h2 t2 px v1 k2 => wpAny_pure (wpAny_pure ?_))
  replace k2 : Heap.SameBut i1 h1 h2 := k2
  refine wpAny_bind (wpAny_bind (wpAny_holding ?_))
  show wpAny _ _ (Builtin.SmallTypes.nextOf (.ref i2) >>= _) _ _ ⟨h2, gl, dd, t2, ow⟩
  refine wpAny_bind (D2.item i _ _ _ l2 (D2.over (D2.over u2 k1 S.zf2) k2 S.sep1_2) fun y h3 t3 py v2 k3 => wpAny_pure (wpAny_pure (wpAny_pure ?_)))
  replace k3 : Heap.SameBut i2 h2 h3 := k3
  show wpAny _ _ (newTuple [x, y] >>= _) _ _ _
  refine wpAny_bind (wpAny_newTuple ?_)
  have up : ∀ c o, c ≠ z → c ≠ i1 → c ≠ i2 → h0.get? c = some o → h3.get? c = some o := fun c o a b d e => k3.extBut _ _ d (k2.extBut _ _ b (k1.extBut _ _ a e))
  have es : h3.objs.size = h0.objs.size := by rw [k3.1, k2.1, k1.1]
  have nw : IsTupOf2 (h3.push { cls := .type "tuple", data := .seq #[x, y] }) h3.objs.size x y := Heap.get?_push_size _ rfl
  refine wpAny_pure ⟨_, rfl, ?_⟩
  rw [es] at nw
  show Q (.ref h3.objs.size) _
  rw [es]
  exact hQ x y _ t3 px py (Heap.get?_push_of_some _ (k3.extBut _ _ S.zi2 (k2.extBut _ _ S.zi1 z1)))
    (D1.frame _ _ _ (D1.over v1 k3 S.sep2_1) fun b _ o e => Heap.get?_push_of_some _ e) (D2.frame _ _ _ v2 fun b _ o e => Heap.get?_push_of_some _ e) nw fun c o a b d e => Heap.get?_push_of_some _ (up c o a b d e)
/-- no pair behind the last, the one ahead still held -/
theorem held_end {Q : Fin → Shared → Prop} (S : ZipSep2 z TI TO i1 i2 fp1 fp2) (D1 : Draws prog w A i1 fp1 n1 P1 St1)
    (hz : IsZipHeld s.heap z TI TO T f) (hT : s.heap.get? T = some oT) (hTI : IsTupOf2 s.heap TI (.ref i1) (.ref i2)) (u1 : St1 n1 s.heap)
    (hE : ∀ h' e, (∀ c o, c ≠ z → c ≠ i1 → s.heap.get? c = some o → h'.get? c = some o) → (∃ o, h'.get? e = some o ∧ o.cls = .type "StopIteration") → E (.ref e) { s with heap := h' }) :
    wpAny (model prog w) A (Builtin.«zip.__next__» ⟨[.ref z], []⟩) Q E s := by
  show wpAny _ _ (field (.ref z) 2 >>= _) _ _ _
  refine wpAny_bind (wpAny_field hz rfl (x := .bool false) rfl ?_)
  show wpAny _ _ (field (.ref z) 3 >>= _) _ _ _
  refine wpAny_bind (wpAny_field hz rfl (x := .ref TI) rfl (wpAny_bind (wpAny_seqItems hTI rfl ?_)))
  show wpAny _ _ (Builtin.SmallTypes.ownedTupleIsFree (.ref z) >>= _) _ _ _
  refine wpAny_bind (wpAny_tupleHeld_zip hz hT fun h1 z1 k1 => ?_)
  simp only [Bool.false_eq_true, if_false]
  refine wpAny_bind ?_
  rw [← Array.forIn_toList]
  simp only [List.forIn_cons, List.forIn_nil]
  refine wpAny_bind (wpAny_bind (wpAny_holding ?_))
  show wpAny _ _ (Builtin.SmallTypes.nextOf (.ref i1) >>= _) _ _ _
  exact wpAny_bind (D1.done { s with heap := h1 } _ _ (D1.over u1 k1 S.zf1) fun h2 e k2 he => hE h2 e (fun c o a b x => k2 _ _ b (k1.extBut _ _ a x)) he)
theorem next_held_item {Q : Option Value → Shared → Prop} (S : ZipSep2 z TI TO i1 i2 fp1 fp2) (D1 : Draws prog w A.in1 i1 fp1 n1 P1 St1) (D2 : Draws prog w A.in1 i2 fp2 n2 P2 St2)
    (hz : IsZipHeld s.heap z TI TO T f) (hT : s.heap.get? T = some oT) (hTI : IsTupOf2 s.heap TI (.ref i1) (.ref i2)) (u1 : St1 i s.heap) (u2 : St2 i s.heap) (l1 : i < n1) (l2 : i < n2)
    (hQ : ∀ x y h' tk, P1 i x → P2 i y → IsZipHeld h' z TI TO T true → St1 (i + 1) h' → St2 (i + 1) h' → IsTupOf2 h' s.heap.objs.size x y →
      (∀ c o, c ≠ z → c ≠ i1 → c ≠ i2 → s.heap.get? c = some o → h'.get? c = some o) → Q (some (.ref s.heap.objs.size)) { s with heap := h', toks := tk }) :
    wpAny (model prog w) A (pyNext (.ref z)) Q E s := by
  have ty : s.TypeIs (.ref z) "zip" := ⟨_, hz, rfl⟩
  unfold pyNext
  refine wpAny_bind (wpAny_attempt (wpAny_callSpecial?_slot (name := Str.ofString "__next__") ty F.slot_zip_next (wpAny_call_entry F.slot_zip_next ty F.entry_zip_next ?_ (F.args_zip_next_1 _))))
  exact held_item S D1 D2 hz hT hTI u1 u2 l1 l2 fun x y h' tk a b c d e g k => wpAny_pure (hQ x y h' tk a b c d e g k)
theorem next_held_end {Q : Option Value → Shared → Prop} (S : ZipSep2 z TI TO i1 i2 fp1 fp2) (D1 : Draws prog w A.in1 i1 fp1 n1 P1 St1)
    (hz : IsZipHeld s.heap z TI TO T f) (hT : s.heap.get? T = some oT) (hTI : IsTupOf2 s.heap TI (.ref i1) (.ref i2)) (u1 : St1 n1 s.heap)
    (hQ : ∀ h', (∀ c o, c ≠ z → c ≠ i1 → s.heap.get? c = some o → h'.get? c = some o) → Q none { s with heap := h' }) :
    wpAny (model prog w) A (pyNext (.ref z)) Q E s := by
  have ty : s.TypeIs (.ref z) "zip" := ⟨_, hz, rfl⟩
  unfold pyNext
  refine wpAny_bind (wpAny_attempt (wpAny_callSpecial?_slot (name := Str.ofString "__next__") ty F.slot_zip_next (wpAny_call_entry F.slot_zip_next ty F.entry_zip_next ?_ (F.args_zip_next_1 _))))
  refine held_end S D1 hz hT hTI u1 fun h' e k he => ?_
  obtain ⟨o, ho, hc⟩ := he
  exact wpAny_bind (wpAny_isInstance (T := "StopIteration") (b := true) ⟨o, ho, hc⟩ isSubtype_stop (wpAny_pure (hQ _ k)))
end
theorem apart {h : Heap} {it l a : Addr} {i : Nat} {xs : Array Value} (p : h.IsTupleIter it l i) (q : h.IsTuple a xs) : a ≠ it := by
  intro e
  subst e
  obtain ⟨o, e1, c1, _⟩ := p
  obtain ⟨u, e2, c2, _⟩ := q
  rw [e1] at e2
  cases e2
  rw [c1] at c2
  injection c2 with c2
  exact absurd c2 (by decide)
/-- zip(t, u) as the argument of dict() -/
theorem zipTup {prog : Program} {w : World} (z TI TO i1 i2 a b : Addr) (S : ZipSep2 z TI TO i1 i2 [i1, a] [i2, b]) (xs ys : Array Value) (hl : xs.size = ys.size) :
    PairArg prog w "zip" z [z, TI, TO, i1, a, i2, b] [z, TO, i1, i2] xs.size (fun i k v => xs[i]? = some k ∧ ys[i]? = some v)
      (fun h => IsZip h z TI TO .none ∧ IsTupOf2 h TI (.ref i1) (.ref i2) ∧ IsTupOf2 h TO .none .none ∧ (h.IsTupleIter i1 a 0 ∧ h.IsTuple a xs) ∧ h.IsTupleIter i2 b 0 ∧ h.IsTuple b ys) where
  type := fun s o => ⟨_, o.1, rfl⟩
  notDict := by decide
  keep := fun h h' ⟨q1, q2, q3, ⟨q4, q5⟩, q6, q7⟩ k => ⟨k _ _ q1, k _ _ q2, k _ _ q3, ⟨q4.at fun o => k _ o, q5.at fun o => k _ o⟩, q6.at fun o => k _ o, q7.at fun o => k _ o⟩
  there := fun h ⟨q1, q2, q3, ⟨⟨o4, q4, _⟩, o5, q5, _⟩, ⟨o6, q6, _⟩, o7, q7, _⟩ c hc => by
    simp only [List.mem_cons, List.not_mem_nil, or_false] at hc
    rcases hc with e | e | e | e | e | e | e <;> subst e
    · exact ⟨_, q1⟩
    · exact ⟨_, q2⟩
    · exact ⟨_, q3⟩
    · exact ⟨_, q4⟩
    · exact ⟨_, q5⟩
    · exact ⟨_, q6⟩
    · exact ⟨_, q7⟩
  sub := fun c hc => by
    simp only [List.mem_cons, List.not_mem_nil, or_false] at hc ⊢
    rcases hc with e | e | e | e <;> simp [e]
  noKeys := fun A s Q E hA o h => getAttrOr_miss_zip o.1 rfl rfl rfl zip_no_keys (by decide +kernel) hA h
  iter := fun A s d Q E hA ⟨q1, q2, q3, q4, q6⟩ hd hf h => by
    simp only [List.mem_cons, List.not_mem_nil, or_false, not_or] at hf
    obtain ⟨dz, dI, dO, d1, da, d2, db⟩ := hf
    have D1 := Draws.tuple (prog := prog) (w := w) (A := A.in1) hA i1 a (apart q4.1 q4.2) xs
    have D2 := Draws.tuple (prog := prog) (w := w) (A := A.in1) hA i2 b (apart q6.1 q6.2) ys
    refine wpAny_pyIter_zip q1 (h z [z, TO, i1, i2] (fun i g => IsTupOf2 g TI (.ref i1) (.ref i2) ∧ (g.IsTupleIter i1 a i ∧ g.IsTuple a xs) ∧ (g.IsTupleIter i2 b i ∧ g.IsTuple b ys) ∧
      ((IsZip g z TI TO .none ∧ IsTupOf2 g TO .none .none) ∨ ∃ T f oT, IsZipHeld g z TI TO T f ∧ g.get? T = some oT ∧ T ≠ z ∧ T ≠ i1 ∧ T ≠ i2 ∧ T ≠ d)) s.heap s.toks ?_ ⟨q2, q4, q6, .inl ⟨q1, q3⟩⟩ (fun _ _ e => e) fun c hc => .inl hc)
    refine ⟨fun hm => ?_, fun i g g' st k => ?_, fun i s1 Q1 E1 hi st hds hQ => ?_, fun s1 Q1 E1 st hQ => ?_⟩
    · simp only [List.mem_cons, List.not_mem_nil, or_false] at hm
      rcases hm with e | e | e | e
      · exact dz e
      · exact dO e
      · exact d1 e
      · exact d2 e
    · obtain ⟨p1, ⟨p2, p3⟩, ⟨p4, p5⟩, p6⟩ := st
      refine ⟨k _ _ (Ne.symm dI) p1, ⟨p2.at fun o => k _ o (Ne.symm d1), p3.at fun o => k _ o (Ne.symm da)⟩, ⟨p4.at fun o => k _ o (Ne.symm d2), p5.at fun o => k _ o (Ne.symm db)⟩, ?_⟩
      rcases p6 with ⟨r1, r2⟩ | ⟨T, f, oT, r1, r2, r3, r4, r5, r6⟩
      · exact .inl ⟨k _ _ (Ne.symm dz) r1, k _ _ (Ne.symm dO) r2⟩
      · exact .inr ⟨T, f, oT, k _ _ (Ne.symm dz) r1, k _ _ r6 r2, r3, r4, r5, r6⟩
    · obtain ⟨p1, p2, p4, p6⟩ := st
      have old : ∀ {c o}, s1.heap.get? c = some o → s1.heap.objs.size ≠ c := fun e => Nat.ne_of_gt (Heap.lt_size e)
      have m1 : s1.heap.objs.size ≠ i1 := let ⟨⟨_, e, _⟩, _⟩ := p2; old e
      have m2 : s1.heap.objs.size ≠ i2 := let ⟨⟨_, e, _⟩, _⟩ := p4; old e
      rcases p6 with ⟨r1, r2⟩ | ⟨T, f, oT, r1, r2, r3, r4, r5, r6⟩
      · refine wpAny_pyNext_zipD2_item S D1 D2 r1 p1 r2 p2 p4 hi (hl ▸ hi) fun x y h' tk px py b1 _ c1 c2 b5 _ k => ?_
        exact hQ _ x y h' tk ⟨px, py⟩ (.inl ⟨_, b5, rfl, _, rfl⟩) ⟨k _ _ S.TIz S.TITO S.TIi1 S.TIi2 p1, c1, c2, .inr ⟨_, false, _, b1, b5, old r1, m1, m2, Nat.ne_of_gt hds⟩⟩
          fun c o hc e => k c o (fun v => hc (by simp [v])) (fun v => hc (by simp [v])) (fun v => hc (by simp [v])) (fun v => hc (by simp [v])) e
      · refine next_held_item S D1 D2 r1 r2 p1 p2 p4 hi (hl ▸ hi) fun x y h' tk px py b1 c1 c2 b5 k => ?_
        exact hQ _ x y h' tk ⟨px, py⟩ (.inl ⟨_, b5, rfl, _, rfl⟩) ⟨k _ _ S.TIz S.TIi1 S.TIi2 p1, c1, c2, .inr ⟨T, true, oT, b1, k _ _ r3 r4 r5 r2, r3, r4, r5, r6⟩⟩
          fun c o hc e => k c o (fun v => hc (by simp [v])) (fun v => hc (by simp [v])) (fun v => hc (by simp [v])) e
    · obtain ⟨p1, p2, p4, p6⟩ := st
      rcases p6 with ⟨r1, r2⟩ | ⟨T, f, oT, r1, r2, r3, r4, r5, r6⟩
      · exact wpAny_pyNext_zipD2_end S D1 D2 r1 p1 r2 p2 p4 (Nat.le_refl _) (by omega) (.inl rfl) fun h' tk k => hQ h' tk fun c o hc e => k c o (fun v => hc (by simp [v])) (fun v => hc (by simp [v])) (fun v => hc (by simp [v])) (fun v => hc (by simp [v])) e
      · exact next_held_end S D1 r1 r2 p1 p2 fun h' k => hQ h' s1.toks fun c o hc e => k c o (fun v => hc (by simp [v])) (fun v => hc (by simp [v])) e
open PySem.Spec PyProof.Rows L2
/-- dict(zip(..)) of tuples with keys for items -/
def tDictZip (K : PySem.W.Frag) (t : TA) : TE := fun σ H Q => t σ H fun vs H1 => ∃ (a b : Addr) (ks : List Key) (ys : List V), vs = [.ref a, .ref b] ∧ SqT K H1 a (ks.map kV) ∧ SqT K H1 b ys ∧ ks.length = ys.length ∧
  ∀ p, H1 p = none → Q (.ref p) (upd H1 p (.dK (mergeK [] (ks.zip ys))))
theorem zip_rel : ∀ {ks : List Key} {ys : List V} {us vs : List Value}, Vals (ks.map kV) us → Vals ys vs → ks.length = ys.length →
    KV (ks.zip ys) (ks.zip vs) ∧ us.length = ks.length ∧ ∀ (i : Nat) (k v : Value), us[i]? = some k → vs[i]? = some v → ∃ c, (ks.zip vs)[i]? = some (c, v) ∧ ∀ (P : Program) (w : World), (mixKind P w).is c k = true
  | [], [], _, _, .nil, .nil, _ => ⟨.nil, rfl, fun i k v h => by simp at h⟩
  | c :: ks, y :: ys, _, _, .cons r1 t1, .cons r2 t2, h => by
    obtain ⟨p1, p2, p3⟩ := zip_rel t1 t2 (by simpa using h)
    refine ⟨.cons ⟨rfl, r2⟩ p1, by rw [List.length_cons, List.length_cons, p2], fun i k v h1 h2 => ?_⟩
    cases i with
    | zero =>
      simp at h1 h2
      subst h1 h2
      exact ⟨c, rfl, fun P w => kV_is r1⟩
    | succ i => exact p3 i k v (by simpa using h1) (by simpa using h2)
theorem sepNat (n a b : Nat) (ha : a < n) (hb : b < n) : ZipSep2 (n + 4) (n + 2) (n + 3) n (n + 1) [n, a] [n + 1, b] := by
  have k1 : ∀ i : Nat, 0 < i → n + i ≠ n := fun i h => by omega
  have k2 : ∀ i j : Nat, i ≠ j → n + i ≠ n + j := fun i j h => by omega
  have k3 : ∀ i : Nat, n + i ≠ a := fun i => by omega
  have k4 : ∀ i : Nat, n + i ≠ b := fun i => by omega
  have k5 : n ≠ b := by omega
  have k6 : n ≠ a := by omega
  refine ⟨k2 2 4 (by decide), k2 3 4 (by decide), k2 2 3 (by decide), k1 2 (by decide), List.mem_cons_self, fun h => ?_, fun h => ?_, k2 2 1 (by decide), List.mem_cons_self, fun h => ?_, fun h => ?_, fun h => ?_, fun h => ?_⟩ <;>
    rcases List.mem_cons.mp h with h | h
  · exact k1 4 (by decide) h
  · exact k3 4 (List.mem_singleton.mp h)
  · exact k1 3 (by decide) h
  · exact k3 3 (List.mem_singleton.mp h)
  · exact k2 4 1 (by decide) h
  · exact k4 4 (List.mem_singleton.mp h)
  · exact k2 3 1 (by decide) h
  · exact k4 3 (List.mem_singleton.mp h)
  · exact k1 1 (by decide) h.symm
  · exact k5 (List.mem_singleton.mp h)
  · exact k1 1 (by decide) h
  · exact k3 1 (List.mem_singleton.mp h)
theorem notNew (n c : Nat) (h : c < n) : c ∉ [n + 4, n + 3, n, n + 1] := by
  intro m
  simp only [List.mem_cons, List.not_mem_nil, or_false] at m
  omega
theorem merge_len (ks : List Key) (ys : List V) : (mergeK [] (ks.zip ys)).length ≤ ks.length := by
  refine Nat.le_trans (length_mergeK (ks.zip ys) []) ?_
  rw [List.length_nil, Nat.zero_add, List.length_zip]
  exact Nat.min_le_left ..
theorem pe_dictZip {X : Cx} {e e2 : Expr} {t : TA} {p p2 pos pos2 : Pos} (hc : X.calm = true) (gd : Gl X "dict") (md : X.mg "dict" = none) (gz : Gl X "zip") (mz : X.mg "zip" = none) (ha : PA X [e, e2] t)
    (hs : starEach [e, e2] X.env = (false, eval e X.env) :: starEach [e2] X.env := by rfl) (hpl : (backTo pos2 (starEach [e2] X.env)).any (·.1) = false := by rfl)
    (ho : starEach [.Call (.Name "zip" p2) [e, e2] [] pos2] X.env = (false, eval (.Call (.Name "zip" p2) [e, e2] [] pos2) X.env) :: starEach [] X.env := by rfl) :
    PE X (.Call (.Name "dict" p) [.Call (.Name "zip" p2) [e, e2] [] pos2] [] pos) (tDictZip X.K t) := by
  refine ⟨fun pins s σ H Q I h => ?_⟩
  refine wpAny_Call_Name_kw (ld_blt I gd md PyProof.Rows.boot_dict ?_)
  refine PyProof.Rows.callWith_type1 ?_ ho rfl
  rw [ho]
  show wpAny _ _ (spliced ((false, eval (.Call (.Name "zip" p2) [e, e2] [] pos2) X.env) :: backTo pos (starEach [] X.env))) _ _ s
  refine Calls.spliced_cons ?_
  refine wpAny_Call_Name_kw (ld_blt I gz mz PyProof.Rows.boot_zip (PyProof.Rows.callWith_type1 (thn (ha.run pos2 pins s σ H _ I h) fun us s1 ⟨vs, H1, I1, r1, a, b, ks, ys, ev, hA, hB, hl, q⟩ => ?_) hs hpl))
  subst ev
  obtain ⟨u1, u2, eu, ra, rb⟩ := vals2 r1
  subst eu
  cases ra
  cases rb
  obtain ⟨xs', va, ta, za⟩ := I1.tuple hA
  obtain ⟨ys', vb, tb, zb⟩ := I1.tuple hB
  obtain ⟨o1, ho1, _⟩ := id ta
  obtain ⟨o2, ho2, _⟩ := id tb
  obtain ⟨hrel, hlen, hks⟩ := zip_rel va vb hl
  have ka : s1.heap.IsTuple a xs'.toArray := ta
  have kb : s1.heap.IsTuple b ys'.toArray := tb
  have lb := vb.length
  have big : sysModules < s1.heap.objs.size := I1.big
  have xl : xs'.length ≤ sizeLine := by rw [hlen, ← List.length_map (f := kV) (as := ks)]; exact za
  have la : xs'.toArray.size = ys'.toArray.size := by simp; omega
  have g1 := Heap.lt_size ho1
  have g2 := Heap.lt_size ho2
  refine RZ.call_zipT (show s1.heap.IsTuple a xs'.toArray from ta) (show s1.heap.IsTuple b ys'.toArray from tb) fun h1 hz hTI hTO n1 n2 hsz hk => ?_
  refine Calls.spliced_nil ?_
  have S : ZipSep2 (s1.heap.objs.size + 4) (s1.heap.objs.size + 2) (s1.heap.objs.size + 3) s1.heap.objs.size (s1.heap.objs.size + 1) [s1.heap.objs.size, a] [s1.heap.objs.size + 1, b]  := sepNat _ _ _ g1 g2
  refine PySem.call_dict_pairs (knd := mixKind X.prog X.w) (kvs := ks.zip ys') (s := { s1 with heap := h1 }) (zipTup _ _ _ _ _ a b S xs'.toArray ys'.toArray la) (I1.ok.hd hc)
    ⟨hz, hTI, hTO, ⟨n1, ka.at fun o e => hk _ _ e⟩, n2, kb.at fun o e => hk _ _ e⟩ ⟨?_, fun i k v ⟨e1, e2⟩ => ?_⟩ ?_ fun h2 tk hd k2 => ?_
  · rw [List.length_zip, ← lb]; simp; omega
  · obtain ⟨c, c1, c2⟩ := hks i k v (by simpa using e1) (by simpa using e2)
    exact ⟨c, c1, c2 _ _⟩
  · simpa using xl
  · have hm : (h1.objs.size == sysModules) = false := beq_eq_false_iff_ne.mpr (Nat.ne_of_gt (by rw [hsz]; exact Nat.lt_of_lt_of_le big (Nat.le_add_right _ _)))
    have hz2 : (mergeK [] (ks.zip ys)).length ≤ sizeLine := Nat.le_trans (merge_len ks ys) (by rw [← hlen]; exact xl)
    have hk2 : ∀ c o, s1.heap.get? c = some o → h2.get? c = some o := fun c o e => by
      have lt : (c : Nat) < s1.heap.objs.size := Heap.lt_size e
      exact k2 c o (notNew _ _ lt) (hk c o e)
    exact ⟨.ref h1.objs.size, upd H1 h1.objs.size (.dK (mergeK [] (ks.zip ys))), I1.laid (t' := tk) hk2 (by rw [hsz]; omega) (show ObjOk X.prog X.w _ _ _ (.dK (mergeK [] (ks.zip ys))) from ⟨hz2, hm, merged [] (ks.zip ys'), KV.merge hrel .nil, hd⟩), rfl, q _ (I1.hok.fresh (by rw [hsz]; omega))⟩
end Td
/-! tuple(d.items()). -/
namespace Td
open PySem PySem.Spec PyProof.Rows L2
section
variable {prog : Program} {w : World} {K : Type} [DecidableEq K] {knd : KeyKind prog w K} {A : Around} {E : Value → Shared → Prop} {s : Shared} {r d : Addr} {kvs : List (K × Value)} {ep : Nat}
/-- what a heap holds behind the items are taken -/
def Taken (knd : KeyKind prog w K) (kvs : List (K × Value)) (h h' : Heap) (as : List Addr) : Prop :=
  (∀ b o, h.get? b = some o → h'.get? b = some o) ∧ as.length = kvs.length ∧ PySem.W.KdxG knd kvs h.objs.size h' as ∧
  ∃ acc c, acc.toList = as.map Value.ref ∧ h'.get? h.objs.size = some { cls := .type "list", dict := none, data := .seq acc c, slots := #[] }
theorem collect_view {Q : List Value → Shared → Prop} (hh : A.handled = none) (hv : s.heap.IsItemsView r d) (hm : s.heap.DictAt knd d kvs ep) (hn : kvs.length ≤ sizeLine)
    (hQ : ∀ (h' : Heap) (tk : Nat) (as : List Addr), Taken knd kvs s.heap h' as → Q (as.map Value.ref) { s with heap := h', toks := tk }) :
    wpAny (model prog w) A (collect (.ref r)) Q E s := by
  have lr : r < s.heap.objs.size := by obtain ⟨o, e, _⟩ := hv; exact Heap.lt_size e
  have ld : d < s.heap.objs.size := hm.lt_size
  have e0 : (s.heap.push { cls := .type "list", data := .seq ([] : List Value).toArray }).get? s.heap.objs.size = some { cls := .type "list", data := .seq #[] 0 } := Heap.get?_push_size _ rfl
  have sz : (s.heap.push { cls := .type "list", data := .seq ([] : List Value).toArray }).objs.size = s.heap.objs.size + 1 := Heap.size_push ..
  have step : ∀ (as : List Addr) (acc : Array Value) (c : Nat) (h' : Heap) (tk : Nat), Taken knd kvs s.heap h' as → acc.toList = as.map Value.ref → h'.get? s.heap.objs.size = some { cls := .type "list", dict := none, data := .seq acc c, slots := #[] } →
      Q acc.toList { s with heap := h', toks := tk } := fun as acc c h' tk t e _ => by rw [e]; exact hQ h' tk as t
  unfold collect
  refine wpAny_bind (wpAny_runValue (codeAny_builtin F.entry_proto_collect ?_))
  rw [Around.under_plainId F.plain_proto_collect _]
  show wpAny _ A.in1 (newList [] >>= fun l => again (.builtin "list.__iadd__" ⟨[l, .ref r], []⟩)) _ _ s
  refine wpAny_bind (wpAny_newObj_type (wpAny_pure ⟨plainId_quiet F.plain_list_iadd _, codeAny_builtin F.entry_list_iadd ?_⟩))
  rw [Around.under_plainId F.plain_list_iadd _]
  show wpAny _ A.in1 (Builtin.List.listExtendWith (.ref s.heap.objs.size) (.ref r) (.ref s.heap.objs.size)) _ _ _
  refine wpAny_mono (PySem.W.kdx_extend (A := A) (knd := knd) (kvs := kvs) (ep := ep) (d := d) (s := { s with heap := s.heap.push { cls := .type "list", data := .seq ([] : List Value).toArray } })
    (R := fun rr s' => rr = .ok (.ret (.ref s.heap.objs.size)) ∧ ∃ (h' : Heap) (tk : Nat) (as : List Addr) (acc : Array Value) (c : Nat), s' = { s with heap := h', toks := tk } ∧ Taken knd kvs s.heap h' as ∧ acc.toList = as.map Value.ref ∧
      h'.get? s.heap.objs.size = some { cls := .type "list", dict := none, data := .seq acc c, slots := #[] }) hh (let ⟨o, e, c⟩ := hv; ⟨o, Heap.get?_push_of_some _ e, c⟩) (hm.push _) s.heap.objs.size (Nat.ne_of_gt lr) (Nat.ne_of_lt ld) _ 0 e0
    (fun h' tk acc c as k e hl hG ha => ⟨rfl, h', tk, as, acc, c, rfl, ⟨fun b o q => k b o (Nat.ne_of_lt (Heap.lt_size q)) (Heap.get?_push_of_some _ q), hl, hG.low (by rw [sz]; exact Nat.le_succ _), acc, c, ha, e⟩, ha, e⟩) hn) (fun f s' h => ?_) (fun e s' h => absurd h.1 (by simp))
  cases f with
  | done f =>
    obtain ⟨e, h', tk, as, acc, c, rfl, t, ha, g⟩ := h
    cases e
    exact wpAny_bind (wpAny_load g (wpAny_pure (step as acc c h' tk t ha g)))
  | again c' =>
    refine ⟨h.1, codeAny_mono h.2 fun rr s2 q => ?_⟩
    obtain ⟨rfl, h', tk, as, acc, c, rfl, t, ha, g⟩ := q
    show wpAny _ A (load s.heap.objs.size >>= _) _ _ _
    exact wpAny_bind (wpAny_load g (wpAny_pure (step as acc c h' tk t ha g)))
theorem code_tuple_view {Q : Value → Shared → Prop} (hh : A.handled = none) (hv : s.heap.IsItemsView r d) (hm : s.heap.DictAt knd d kvs ep) (hn : kvs.length ≤ sizeLine)
    (hQ : ∀ (h' : Heap) (tk : Nat) (as : List Addr), Taken knd kvs s.heap h' as → Q (.ref h'.objs.size) { s with heap := h'.push { cls := .type "tuple", data := .seq (as.map Value.ref).toArray }, toks := tk }) :
    codeAny (model prog w) A (.call (.builtin "tuple.__new__") ⟨[.type "tuple", .ref r], []⟩) (wants Q E) s := by
  refine codeAny_of_tree ?_
  show wpAny _ A.in1 (do checkBuiltinCall "tuple.__new__" ⟨[.type "tuple", .ref r], []⟩; again (.builtin "tuple.__new__" ⟨[.type "tuple", .ref r], []⟩)) _ _ s
  refine wpAny_bind (wpAny_of_eq (F.newCall_tuple_1 _) (wpAny_pure ⟨plainId_quiet F.plain_tuple_new _, codeAny_builtin F.entry_tuple_new ?_⟩))
  rw [Around.under_plainId F.plain_tuple_new _]
  have k1 := sub_tuple_self
  have k2 := init_tuple_lookup
  have k3 := madeHere_tuple
  have k4 : s.TypeIs (.ref r) "dict_items" := hv.typeIs
  have k5 : A.in1.handled = none := hh
  wp_walk using wpAny_typeOf k4, collect_view (A := A.in1) (knd := knd) (kvs := kvs) (ep := ep) k5 hv hm hn
  intro h' tk as t
  show wpAny _ _ (Builtin.Tuple.tupleExact (as.map Value.ref).toArray >>= fun v => ret v) _ _ _
  unfold Builtin.Tuple.tupleExact
  exact wpAny_bind (wpAny_newObj_type (wpAny_pure (hQ h' tk as t)) (by show (as.map Value.ref).toArray.size ≤ sizeLine; rw [List.size_toArray, List.length_map, t.2.1]; exact hn))
theorem call_tuple_view {Q : Value → Shared → Prop} (hh : A.handled = none) (hv : s.heap.IsItemsView r d) (hm : s.heap.DictAt knd d kvs ep) (hn : kvs.length ≤ sizeLine)
    (hQ : ∀ (h' : Heap) (tk : Nat) (as : List Addr), Taken knd kvs s.heap h' as → Q (.ref h'.objs.size) { s with heap := h'.push { cls := .type "tuple", data := .seq (as.map Value.ref).toArray }, toks := tk }) :
    wpAny (model prog w) A (call (.type "tuple") [.ref r]) Q E s := by
  refine callType_codes (Q₁ := fun obj s₁ => s₁.TypeIs obj "tuple" ∧ Q obj s₁) F.called_tuple (F.typeCall_tuple_1 _) F.entry_object_init
    (code_tuple_view (A := A.in1) hh hv hm hn fun h' tk as t => ⟨⟨_, Heap.get?_push_size _ rfl, rfl⟩, hQ h' tk as t⟩) fun obj s1 q => ?_
  exact ⟨q.1, F.args_object_init_2 obj _, object_init_meets F.called_tuple.init.lookup F.called_tuple.made (by decide) prog w A.in1 _ s1 ⟨q.1, rfl, q.2⟩⟩
end
/-- tuple(d.items()): a new tuple of new pairs -/
def tTupItems (te : TE) : TE := fun σ H Q => te σ H fun x H1 => ∃ (d : Addr) (kvs : List (Key × V)), x = .ref d ∧ H1 d = some (.dK kvs) ∧
  ∀ (H' : Hp) (p : Addr) (ts : List Addr), Same H1 H' → H1 p = none → H' p = some (.tup (ts.map V.ref)) → Paired (fun (t : Addr) (q : Key × V) => H' t = some (.tup [kV q.1, q.2])) ts kvs → Q (.ref p) H'
section
variable {X : Cx} {e : Expr} {te : TE} {p apos cpos pos : Pos}
theorem pe_tupleItems (hc : X.calm = true) (he : PE X e te) (hg : Gl X "tuple") (hm : X.mg "tuple" = none) (hbase : attributeBase e "items" X.env (eval e X.env) = eval e X.env := by rfl) (hline : (apos.endLine == cpos.line) = true := by rfl)
    (hs : starEach [.Call (.Attribute e "items" apos) [] [] cpos] X.env = (false, eval (.Call (.Attribute e "items" apos) [] [] cpos) X.env) :: starEach [] X.env := by rfl) :
    PE X (.Call (.Name "tuple" p) [.Call (.Attribute e "items" apos) [] [] cpos] [] pos) (tTupItems te) := by
  refine ⟨fun pins s σ H Q I hq => ?_⟩
  refine wpAny_Call_Name_kw (ld_blt I hg hm PyProof.Rows.boot_tuple (PyProof.Rows.callWith_type1 ?_ hs rfl))
  rw [hs]
  show wpAny _ _ (spliced ((false, eval (.Call (.Attribute e "items" apos) [] [] cpos) X.env) :: backTo pos (starEach [] X.env))) _ _ s
  refine Calls.spliced_cons (wpAny_Call_method (T := "dict") (id := "dict.items") hbase rfl hline F.plainAttrs_dict F.slot_dict_items F.type_dict_items (thn (he.run pins s σ H _ I hq) fun u s1 ⟨x, H1, I1, rx, d, kvs, ex, hd, q⟩ => ?_))
  subst ex
  obtain rfl : u = Value.ref d := rx
  obtain ⟨hz, n0, vs, kv, hdo⟩ := I1.hok d _ hd
  obtain ⟨ep, hat⟩ := hdo.dictAt
  have lk : kvs.length = vs.length := Paired.length kv
  have I2 : Inv X pins σ H1 { s1 with heap := s1.heap.push { cls := .type "dict_items", data := .fields #[.ref d] } } := I1.kept (t' := s1.toks) fun b o q => Heap.get?_push_of_some _ q
  refine ⟨hdo.typeIs, hdo.mapOf.noDict, ?_⟩
  show wpAny _ _ (callWith cpos (.builtin "dict.items") [.ref d] [] []) _ X.xe s1
  refine method_meetsIn F.slot_dict_items F.entry_dict_items rfl (PySem.evalArgs_none ⟨rfl, hdo.typeIs, F.args_dict_items_1 _, _, meets_dict_items (mixKind X.prog X.w) d n0, ⟨vs, hdo⟩, ?_⟩)
  refine Calls.spliced_nil ?_
  refine call_tuple_view (knd := mixKind X.prog X.w) (kvs := vs) (ep := ep) (I1.ok.hd hc) ⟨_, Heap.get?_push_size _ rfl, rfl, rfl⟩ (hat.push _) (by omega) fun h' tk as ⟨k, hl, hG, acc, c, ha, hS⟩ => ?_
  obtain ⟨H', k1, k2, k3, k4, k5, k6, J⟩ := LiI.items_laid (tk := tk) I2 hz kv k hS hl hG ha
  have hx : (as.map V.ref).length ≤ sizeLine := by rw [List.length_map, hl]; omega
  have J2 := J.laid (a := h'.objs.size) (o := .tup (as.map V.ref)) (t' := tk) (h' := h'.push { cls := .type "tuple", data := .seq (as.map Value.ref).toArray }) (fun b o e => Heap.get?_push_of_some _ e) (Nat.le_refl _) ⟨hx, as.map Value.ref, LiI.vals_refs as, IsTup.new _ _⟩
  have hp : H' h'.objs.size = none := J.hok.fresh (Nat.le_refl _)
  refine ⟨.ref h'.objs.size, _, J2, rfl, q _ _ as (fun b o e => Same.new hp _ _ _ (k1 b o e)) ?_ upd_same ?_⟩
  · cases e1 : H1 h'.objs.size with
    | none => rfl
    | some o => rw [k1 _ _ e1] at hp; cases hp
  · exact Paired.mono (fun t q e => Same.new hp _ _ _ e) k6
end
end Td
/-! A datum in a list of data. -/
namespace Td
open PySem PySem.Spec PyProof.Rows L2
def hasD (d : PyData) (ds : List PyData) : Bool := ds.any fun z => PyData.eqv z d
def rInDL (K : PySem.W.Frag) (neg : Bool) : R2 := fun x y H Q => ∃ d ds, Dp K H x d ∧ Dp K H y (.list ds) ∧ SeqAt.shaped d = true ∧ SeqAt.shaped (.list ds) = true ∧ Q (.bl (if neg then !hasD d ds else hasD d ds)) H
section
variable {X : Cx}
theorem op_inDL (hu : X.A.units + 65 < cLine) : OpR X (compareOp .In) (rInDL X.K false) := by
  intro pins s σ H x y v u Q I rx ry ⟨d, ds, h1, h2, e1, e2, q⟩
  obtain ⟨la, a⟩ := Dp.reads I d x v h1 rx
  obtain ⟨lb, b⟩ := Dp.reads I (.list ds) y u h2 ry
  exact SeqAt.in_list_reads b a (SeqAt.canLay_of_shaped e2) (SeqAt.canLay_of_shaped e1) (room_in_shaped e1 hu) ⟨.bl _, H, I, rfl, q⟩
theorem op_ninDL (hu : X.A.units + 65 < cLine) : OpR X (compareOp .NotIn) (rInDL X.K true) := by
  intro pins s σ H x y v u Q I rx ry ⟨d, ds, h1, h2, e1, e2, q⟩
  obtain ⟨la, a⟩ := Dp.reads I d x v h1 rx
  obtain ⟨lb, b⟩ := Dp.reads I (.list ds) y u h2 ry
  exact SeqAt.notIn_list_reads b a (SeqAt.canLay_of_shaped e2) (SeqAt.canLay_of_shaped e1) (room_in_shaped e1 hu) ⟨.bl _, H, I, rfl, q⟩
theorem op_ninDT (hu : X.A.units + 65 < cLine) : OpR X (compareOp .NotIn) (rInDT X.K true) := by
  intro pins s σ H x y v u Q I rx ry ⟨d, ds, h1, h2, e1, e2, q⟩
  obtain ⟨la, a⟩ := Dp.reads I d x v h1 rx
  obtain ⟨lb, b⟩ := Dp.reads I (.tuple ds) y u h2 ry
  exact SeqAt.notIn_tuple_reads b a (SeqAt.canLay_of_shaped e2) (SeqAt.canLay_of_shaped e1) (room_in_shaped e1 hu) ⟨.bl _, H, I, rfl, q⟩
end
end Td
/-! Comprehensions that leave the heap as it was but for what they make: the new list by what each turn gives. -/
namespace Td
open PySem PySem.Spec PyProof.Rows L2
theorem filter_next {α : Type} {f : α → Bool} {l : List α} {i : Nat} {x : α} (h : l[i]? = some x) : (l.take (i + 1)).filter f = if f x = true then (l.take i).filter f ++ [x] else (l.take i).filter f := by
  rw [take_more h, List.filter_append]
  cases hf : f x <;> simp [hf]
/-- values that bear the things of a list, one each -/
structure Rws {α : Type} (R : Hp → V → α → Prop) (H : Hp) (zs : List V) (L : List α) : Prop where
  len : zs.length = L.length
  get : ∀ (i : Nat) (x : α), L[i]? = some x → ∃ v, zs[i]? = some v ∧ R H v x
section
variable {α : Type} {R : Hp → V → α → Prop} {H H' : Hp}
theorem Rws.nil : Rws R H [] [] := ⟨rfl, fun i x h => by simp at h⟩
theorem Rws.keep (m : ∀ {v x}, R H v x → R H' v x) {zs : List V} {L : List α} (h : Rws R H zs L) : Rws R H' zs L := ⟨h.len, fun i x e => by
  obtain ⟨v, h1, h2⟩ := h.get i x e
  exact ⟨v, h1, m h2⟩⟩
theorem Rws.snoc {zs : List V} {L : List α} {v : V} {x : α} (h : Rws R H zs L) (r : R H v x) : Rws R H (zs ++ [v]) (L ++ [x]) := by
  refine ⟨by rw [List.length_append, List.length_append, h.len]; rfl, fun i y e => ?_⟩
  by_cases hi : i < L.length
  · rw [List.getElem?_append_left hi] at e
    obtain ⟨v, h1, h2⟩ := h.get i y e
    exact ⟨v, by rw [List.getElem?_append_left (by rw [h.len]; exact hi)]; exact h1, h2⟩
  · rw [List.getElem?_append_right (by omega)] at e
    have : i - L.length = 0 := by
      have := (List.getElem?_eq_some_iff.mp e).1
      rw [List.length_singleton] at this
      omega
    rw [this] at e
    cases e
    exact ⟨v, by rw [List.getElem?_append_right (by rw [h.len]; omega), h.len, this]; rfl, r⟩
theorem Rws.inv {zs : List V} {L : List α} {i : Nat} {v : V} (h : Rws R H zs L) (e : zs[i]? = some v) : ∃ x, L[i]? = some x ∧ R H v x := by
  have hi : i < L.length := by rw [← h.len]; exact (List.getElem?_eq_some_iff.mp e).1
  obtain ⟨w, h1, h2⟩ := h.get i _ (List.getElem?_eq_getElem hi)
  rw [e] at h1
  cases h1
  exact ⟨_, List.getElem?_eq_getElem hi, h2⟩
theorem Rws.el {el : α → V} {zs : List V} {L : List α} (h : Rws (fun _ v x => v = el x) H zs L) : zs = L.map el := by
  refine List.ext_getElem? fun i => ?_
  rw [List.getElem?_map]
  by_cases hi : i < L.length
  · obtain ⟨w, h1, h2⟩ := h.get i _ (List.getElem?_eq_getElem hi)
    rw [h1, h2, List.getElem?_eq_getElem hi]
    rfl
  · rw [List.getElem?_eq_none (by rw [h.len]; omega), List.getElem?_eq_none (by omega)]
    rfl
theorem Rws.tn {K : PySem.W.Frag} {g : α → PyData} : ∀ {zs : List V} {L : List α}, Rws (fun H v x => Tn K H v (g x)) H zs L → TnAll K H zs (L.map g)
  | [], [], _ => .nil
  | [], _ :: _, h => by have := h.len; simp at this
  | _ :: _, [], h => by have := h.len; simp at this
  | v :: zs, x :: L, h => by
    obtain ⟨w, h1, h2⟩ := h.get 0 x rfl
    cases h1
    exact .cons h2 (Rws.tn ⟨by have := h.len; simpa using this, fun i y e => by simpa using h.get (i + 1) y (by simpa using e)⟩)
end
section
variable {K : PySem.W.Frag} {a : Addr} {xs : List V} {g : TG} {tt : TT} {te : TE} {vs : List Nat} {σ : L2.St} {H1 : Hp} {D : Addr} {Qd : Hp → Prop}
variable {α : Type} (L : List α) (en : α → V) (f : α → Bool) (R : Hp → V → α → Prop)
abbrev Turn (g : TG) (tt : TT) (te : TE) (vs : List Nat) (σ : L2.St) (v : V) (H : Hp) (Yes : V → Hp → Prop) (No : Hp → Prop) : Prop :=
  g v (wipe σ vs) H fun σ2 H2 => wipe σ2 vs = wipe σ vs ∧ tt σ2 H2 fun b H3 => if b = true then te σ2 H3 Yes else No H3
/-- over a tuple, any word J of the heap beside it -/
theorem bu_tup (J : Hp → Prop) (mono : ∀ {H H' : Hp} {v : V} {x : α}, TK H H' → R H v x → R H' v x) (hx : xs = L.map en) (hlen : L.length ≤ 1000) (h0 : J (upd H1 D (.lst [])))
    (hl : ∀ H', J H' → SqT K H' a xs) (hJ : ∀ (H' : Hp) (zs zs' : List V), J H' → H' D = some (.lst zs) → J (upd H' D (.lst zs')))
    (turn : ∀ (i : Nat) (x : α) (H' : Hp), L[i]? = some x → J H' → (∃ zs, H' D = some (.lst zs)) → ∀ (Yes : V → Hp → Prop) (No : Hp → Prop), (f x = true → ∀ (y : V) (H2 : Hp), J H2 → TK H' H2 → H2 D = H' D → R H2 y x → Yes y H2) → (f x = false → ∀ (H2 : Hp), J H2 → TK H' H2 → H2 D = H' D → No H2) → Turn g tt te vs σ (en x) H' Yes No)
    (over : ∀ (H' : Hp) (zs : List V), J H' → H' D = some (.lst zs) → Rws R H' zs (L.filter f) → Qd H') :
    ∃ W : Nat → Nat → Hp → Prop, (∃ m, W 0 m (upd H1 D (.lst []))) ∧ ∀ i m H, W i m H →
      ((Itt K a).stop i H ∧ Qd H) ∨ ((Itt K a).go i H ∧ ∃ Nx : Hp → Prop, (∀ H', Nx H' → ∃ m', m' < m ∧ W (i + 1) m' H') ∧ ∀ x H', (Itt K a).yld i H x H' → g x (wipe σ vs) H' fun σ2 H2 => wipe σ2 vs = wipe σ vs ∧ tt σ2 H2 fun b H3 =>
        if b = true then te σ2 H3 fun y H4 => ∃ acc, H4 D = some (.lst acc) ∧ acc.length < sizeLine ∧ Nx (upd H4 D (.lst (acc ++ [y]))) else Nx H3) := by
  refine lc_tup (K := K) (a := a) (xs := xs) (fun i H' => ∃ zs, J H' ∧ H' D = some (.lst zs) ∧ Rws R H' zs ((L.take i).filter f)) ⟨[], h0, upd_same, by rw [List.take_zero]; exact Rws.nil⟩ (fun i H' _ ⟨_, j, _⟩ => hl H' j) ?_ ?_
  · rintro i y H' hy ⟨zs, j, hz, hR⟩
    rw [hx, List.getElem?_map] at hy
    obtain ⟨x, hx', rfl⟩ := Option.map_eq_some_iff.mp hy
    have fn := filter_next (f := f) hx'
    have il := (List.getElem?_eq_some_iff.mp hx').1
    have zl : zs.length ≤ 1000 := by
      have := hR.len
      have h2 := List.length_filter_le f (L.take i)
      rw [List.length_take] at h2
      omega
    refine turn i x H' hx' j ⟨zs, hz⟩ _ _ (fun hf y H2 j2 tk e r => ?_) (fun hf H2 j2 tk e => ?_)
    · rw [hz] at e
      refine ⟨zs, e, small1000 (by omega), zs ++ [y], hJ H2 zs _ j2 e, upd_same, ?_⟩
      have tk2 : TK H2 (upd H2 D (.lst (zs ++ [y]))) := TK.upd (by rw [e]; trivial)
      rw [fn, if_pos hf]
      exact (hR.keep (mono (tk.trans tk2))).snoc (mono tk2 r)
    · rw [hz] at e
      refine ⟨zs, j2, e, ?_⟩
      rw [fn, if_neg (by rw [hf]; exact Bool.noConfusion)]
      exact hR.keep (mono tk)
  · rintro H' ⟨zs, j, hz, hR⟩
    rw [hx, List.length_map, List.take_length] at hR
    exact over H' zs j hz hR
theorem bu_list (J : Hp → Prop) (mono : ∀ {H H' : Hp} {v : V} {x : α}, TK H H' → R H v x → R H' v x) (hx : xs = L.map en) (hlen : L.length ≤ 1000) (h0 : J (upd H1 D (.lst [])))
    (hl : ∀ H', J H' → SqL K H' a xs) (hJ : ∀ (H' : Hp) (zs zs' : List V), J H' → H' D = some (.lst zs) → J (upd H' D (.lst zs')))
    (turn : ∀ (i : Nat) (x : α) (H' : Hp), L[i]? = some x → J H' → (∃ zs, H' D = some (.lst zs)) → ∀ (Yes : V → Hp → Prop) (No : Hp → Prop), (f x = true → ∀ (y : V) (H2 : Hp), J H2 → TK H' H2 → H2 D = H' D → R H2 y x → Yes y H2) → (f x = false → ∀ (H2 : Hp), J H2 → TK H' H2 → H2 D = H' D → No H2) → Turn g tt te vs σ (en x) H' Yes No)
    (over : ∀ (H' : Hp) (zs : List V), J H' → H' D = some (.lst zs) → Rws R H' zs (L.filter f) → Qd H') :
    ∃ W : Nat → Nat → Hp → Prop, (∃ m, W 0 m (upd H1 D (.lst []))) ∧ ∀ i m H, W i m H →
      ((Itl K a).stop i H ∧ Qd H) ∨ ((Itl K a).go i H ∧ ∃ Nx : Hp → Prop, (∀ H', Nx H' → ∃ m', m' < m ∧ W (i + 1) m' H') ∧ ∀ x H', (Itl K a).yld i H x H' → g x (wipe σ vs) H' fun σ2 H2 => wipe σ2 vs = wipe σ vs ∧ tt σ2 H2 fun b H3 =>
        if b = true then te σ2 H3 fun y H4 => ∃ acc, H4 D = some (.lst acc) ∧ acc.length < sizeLine ∧ Nx (upd H4 D (.lst (acc ++ [y]))) else Nx H3) := by
  refine lc_list (K := K) (a := a) (xs := xs) (fun i H' => ∃ zs, J H' ∧ H' D = some (.lst zs) ∧ Rws R H' zs ((L.take i).filter f)) ⟨[], h0, upd_same, by rw [List.take_zero]; exact Rws.nil⟩ (fun i H' _ ⟨_, j, _⟩ => hl H' j) ?_ ?_
  · rintro i y H' hy ⟨zs, j, hz, hR⟩
    rw [hx, List.getElem?_map] at hy
    obtain ⟨x, hx', rfl⟩ := Option.map_eq_some_iff.mp hy
    have fn := filter_next (f := f) hx'
    have il := (List.getElem?_eq_some_iff.mp hx').1
    have zl : zs.length ≤ 1000 := by
      have := hR.len
      have h2 := List.length_filter_le f (L.take i)
      rw [List.length_take] at h2
      omega
    refine turn i x H' hx' j ⟨zs, hz⟩ _ _ (fun hf y H2 j2 tk e r => ?_) (fun hf H2 j2 tk e => ?_)
    · rw [hz] at e
      refine ⟨zs, e, small1000 (by omega), zs ++ [y], hJ H2 zs _ j2 e, upd_same, ?_⟩
      have tk2 : TK H2 (upd H2 D (.lst (zs ++ [y]))) := TK.upd (by rw [e]; trivial)
      rw [fn, if_pos hf]
      exact (hR.keep (mono (tk.trans tk2))).snoc (mono tk2 r)
    · rw [hz] at e
      refine ⟨zs, j2, e, ?_⟩
      rw [fn, if_neg (by rw [hf]; exact Bool.noConfusion)]
      exact hR.keep (mono tk)
  · rintro H' ⟨zs, j, hz, hR⟩
    rw [hx, List.length_map, List.take_length] at hR
    exact over H' zs j hz hR
end
section
variable {g : TG} {tt : TT} {te : TE} {vs : List Nat} {σ : L2.St} {H1 : Hp} {D : Addr} {Qd : Hp → Prop}
theorem range_take {n i : Nat} (h : i < n) : (List.range n)[i]? = some i := by rw [List.getElem?_range h]
/-- over numbers -/
theorem bu_range {lo : Int} {n : Nat} (f : Nat → Bool) (R : Hp → V → Nat → Prop) (J : Hp → Prop) (mono : ∀ {H H' : Hp} {v : V} {x : Nat}, TK H H' → R H v x → R H' v x) (hlen : n ≤ 1000) (h0 : J (upd H1 D (.lst [])))
    (hJ : ∀ (H' : Hp) (zs zs' : List V), J H' → H' D = some (.lst zs) → J (upd H' D (.lst zs')))
    (turn : ∀ (i : Nat) (H' : Hp), i < n → J H' → (∃ zs, H' D = some (.lst zs)) → ∀ (Yes : V → Hp → Prop) (No : Hp → Prop), (f i = true → ∀ (y : V) (H2 : Hp), J H2 → TK H' H2 → H2 D = H' D → R H2 y i → Yes y H2) → (f i = false → ∀ (H2 : Hp), J H2 → TK H' H2 → H2 D = H' D → No H2) → Turn g tt te vs σ (.int (lo + (i : Nat))) H' Yes No)
    (over : ∀ (H' : Hp) (zs : List V), J H' → H' D = some (.lst zs) → Rws R H' zs ((List.range n).filter f) → Qd H') :
    ∃ W : Nat → Nat → Hp → Prop, (∃ m, W 0 m (upd H1 D (.lst []))) ∧ ∀ i m H, W i m H →
      ((Itr lo n).stop i H ∧ Qd H) ∨ ((Itr lo n).go i H ∧ ∃ Nx : Hp → Prop, (∀ H', Nx H' → ∃ m', m' < m ∧ W (i + 1) m' H') ∧ ∀ x H', (Itr lo n).yld i H x H' → g x (wipe σ vs) H' fun σ2 H2 => wipe σ2 vs = wipe σ vs ∧ tt σ2 H2 fun b H3 =>
        if b = true then te σ2 H3 fun y H4 => ∃ acc, H4 D = some (.lst acc) ∧ acc.length < sizeLine ∧ Nx (upd H4 D (.lst (acc ++ [y]))) else Nx H3) := by
  refine lc_range (lo := lo) (n := n) (fun i H' => ∃ zs, J H' ∧ H' D = some (.lst zs) ∧ Rws R H' zs (((List.range n).take i).filter f)) ⟨[], h0, upd_same, by rw [List.take_zero]; exact Rws.nil⟩ ?_ ?_
  · rintro i H' hi ⟨zs, j, hz, hR⟩
    have hx' := range_take hi
    have fn := filter_next (f := f) hx'
    have zl : zs.length ≤ 1000 := by
      have := hR.len
      have h2 := List.length_filter_le f ((List.range n).take i)
      rw [List.length_take] at h2
      omega
    refine turn i H' hi j ⟨zs, hz⟩ _ _ (fun hf y H2 j2 tk e r => ?_) (fun hf H2 j2 tk e => ?_)
    · rw [hz] at e
      refine ⟨zs, e, small1000 (by omega), zs ++ [y], hJ H2 zs _ j2 e, upd_same, ?_⟩
      have tk2 : TK H2 (upd H2 D (.lst (zs ++ [y]))) := TK.upd (by rw [e]; trivial)
      rw [fn, if_pos hf]
      exact (hR.keep (mono (tk.trans tk2))).snoc (mono tk2 r)
    · rw [hz] at e
      refine ⟨zs, j2, e, ?_⟩
      rw [fn, if_neg (by rw [hf]; exact Bool.noConfusion)]
      exact hR.keep (mono tk)
  · rintro H' ⟨zs, j, hz, hR⟩
    have e : (List.range n).take n = List.range n := List.take_of_length_le (by rw [List.length_range]; exact Nat.le_refl _)
    rw [e] at hR
    exact over H' zs j hz hR
end
/-! ### the heap as it was -/
section
variable {K : PySem.W.Frag} {a : Addr} {xs : List V} {g : TG} {tt : TT} {te : TE} {vs : List Nat} {σ : L2.St} {H1 : Hp} {D : Addr} {Qd : Hp → Prop}
variable {α : Type} (L : List α) (en : α → V) (f : α → Bool) (R : Hp → V → α → Prop)
/-- what stood stands, and the new list is a list -/
def JS (H1 : Hp) (D : Addr) (H' : Hp) : Prop := Same H1 H' ∧ ∃ zs, H' D = some (.lst zs)
theorem JS.start (hD : H1 D = none) : JS H1 D (upd H1 D (.lst [])) := ⟨Same.new hD _, [], upd_same⟩
theorem JS.put (hD : H1 D = none) (H' : Hp) (zs zs' : List V) (j : JS H1 D H') (_ : H' D = some (.lst zs)) : JS H1 D (upd H' D (.lst zs')) := ⟨own_same j.1 hD, zs', upd_same⟩
theorem JS.go {H' H2 : Hp} (j : JS H1 D H') (s : Same H' H2) : JS H1 D H2 ∧ H2 D = H' D := by
  obtain ⟨s1, zs, e⟩ := j
  exact ⟨⟨s1.trans s, zs, s _ _ e⟩, by rw [e]; exact s _ _ e⟩
theorem buS_tup (mono : ∀ {H H' : Hp} {v : V} {x : α}, TK H H' → R H v x → R H' v x) (hl : SqT K H1 a xs) (hx : xs = L.map en) (hlen : L.length ≤ 1000) (hD : H1 D = none)
    (turn : ∀ (i : Nat) (x : α) (H' : Hp), L[i]? = some x → Same H1 H' → ∀ (Yes : V → Hp → Prop) (No : Hp → Prop), (f x = true → ∀ (y : V) (H2 : Hp), Same H' H2 → R H2 y x → Yes y H2) → (f x = false → ∀ (H2 : Hp), Same H' H2 → No H2) → Turn g tt te vs σ (en x) H' Yes No)
    (over : ∀ (H' : Hp) (zs : List V), Same H1 H' → H' D = some (.lst zs) → Rws R H' zs (L.filter f) → Qd H') :
    ∃ W : Nat → Nat → Hp → Prop, (∃ m, W 0 m (upd H1 D (.lst []))) ∧ ∀ i m H, W i m H →
      ((Itt K a).stop i H ∧ Qd H) ∨ ((Itt K a).go i H ∧ ∃ Nx : Hp → Prop, (∀ H', Nx H' → ∃ m', m' < m ∧ W (i + 1) m' H') ∧ ∀ x H', (Itt K a).yld i H x H' → g x (wipe σ vs) H' fun σ2 H2 => wipe σ2 vs = wipe σ vs ∧ tt σ2 H2 fun b H3 =>
        if b = true then te σ2 H3 fun y H4 => ∃ acc, H4 D = some (.lst acc) ∧ acc.length < sizeLine ∧ Nx (upd H4 D (.lst (acc ++ [y]))) else Nx H3) :=
  bu_tup (K := K) (a := a) (xs := xs) L en f R (JS H1 D) mono hx hlen (JS.start hD) (fun H' j => SqT.same j.1 hl) (JS.put hD)
    (fun i x H' hx' j _ Yes No y n => turn i x H' hx' j.1 Yes No (fun hf v H2 s r => y hf v H2 (j.go s).1 (TK.of_same s) (j.go s).2 r) fun hf H2 s => n hf H2 (j.go s).1 (TK.of_same s) (j.go s).2)
    fun H' zs j hz hR => over H' zs j.1 hz hR
theorem buS_list (mono : ∀ {H H' : Hp} {v : V} {x : α}, TK H H' → R H v x → R H' v x) (hl : SqL K H1 a xs) (hx : xs = L.map en) (hlen : L.length ≤ 1000) (hD : H1 D = none)
    (turn : ∀ (i : Nat) (x : α) (H' : Hp), L[i]? = some x → Same H1 H' → ∀ (Yes : V → Hp → Prop) (No : Hp → Prop), (f x = true → ∀ (y : V) (H2 : Hp), Same H' H2 → R H2 y x → Yes y H2) → (f x = false → ∀ (H2 : Hp), Same H' H2 → No H2) → Turn g tt te vs σ (en x) H' Yes No)
    (over : ∀ (H' : Hp) (zs : List V), Same H1 H' → H' D = some (.lst zs) → Rws R H' zs (L.filter f) → Qd H') :
    ∃ W : Nat → Nat → Hp → Prop, (∃ m, W 0 m (upd H1 D (.lst []))) ∧ ∀ i m H, W i m H →
      ((Itl K a).stop i H ∧ Qd H) ∨ ((Itl K a).go i H ∧ ∃ Nx : Hp → Prop, (∀ H', Nx H' → ∃ m', m' < m ∧ W (i + 1) m' H') ∧ ∀ x H', (Itl K a).yld i H x H' → g x (wipe σ vs) H' fun σ2 H2 => wipe σ2 vs = wipe σ vs ∧ tt σ2 H2 fun b H3 =>
        if b = true then te σ2 H3 fun y H4 => ∃ acc, H4 D = some (.lst acc) ∧ acc.length < sizeLine ∧ Nx (upd H4 D (.lst (acc ++ [y]))) else Nx H3) :=
  bu_list (K := K) (a := a) (xs := xs) L en f R (JS H1 D) mono hx hlen (JS.start hD) (fun H' j => SqL.same j.1 hl) (JS.put hD)
    (fun i x H' hx' j _ Yes No y n => turn i x H' hx' j.1 Yes No (fun hf v H2 s r => y hf v H2 (j.go s).1 (TK.of_same s) (j.go s).2 r) fun hf H2 s => n hf H2 (j.go s).1 (TK.of_same s) (j.go s).2)
    fun H' zs j hz hR => over H' zs j.1 hz hR
theorem fiS_tup (el : α → V) (hl : SqT K H1 a xs) (hx : xs = L.map en) (hlen : L.length ≤ 1000) (hD : H1 D = none)
    (turn : ∀ (i : Nat) (x : α) (H' : Hp), L[i]? = some x → Same H1 H' → ∀ (Yes : V → Hp → Prop) (No : Hp → Prop), (f x = true → ∀ (H2 : Hp), Same H' H2 → Yes (el x) H2) → (f x = false → ∀ (H2 : Hp), Same H' H2 → No H2) → Turn g tt te vs σ (en x) H' Yes No)
    (over : ∀ (H' : Hp), Same H1 H' → H' D = some (.lst ((L.filter f).map el)) → Qd H') :
    ∃ W : Nat → Nat → Hp → Prop, (∃ m, W 0 m (upd H1 D (.lst []))) ∧ ∀ i m H, W i m H →
      ((Itt K a).stop i H ∧ Qd H) ∨ ((Itt K a).go i H ∧ ∃ Nx : Hp → Prop, (∀ H', Nx H' → ∃ m', m' < m ∧ W (i + 1) m' H') ∧ ∀ x H', (Itt K a).yld i H x H' → g x (wipe σ vs) H' fun σ2 H2 => wipe σ2 vs = wipe σ vs ∧ tt σ2 H2 fun b H3 =>
        if b = true then te σ2 H3 fun y H4 => ∃ acc, H4 D = some (.lst acc) ∧ acc.length < sizeLine ∧ Nx (upd H4 D (.lst (acc ++ [y]))) else Nx H3) :=
  buS_tup (K := K) (a := a) (xs := xs) L en f (fun _ v x => v = el x) (fun _ h => h) hl hx hlen hD
    (fun i x H' hx' s Yes No y n => turn i x H' hx' s Yes No (fun hf H2 s2 => y hf _ H2 s2 rfl) n)
    fun H' zs s hz hR => over H' s (by rw [← hR.el]; exact hz)
theorem fiS_list (el : α → V) (hl : SqL K H1 a xs) (hx : xs = L.map en) (hlen : L.length ≤ 1000) (hD : H1 D = none)
    (turn : ∀ (i : Nat) (x : α) (H' : Hp), L[i]? = some x → Same H1 H' → ∀ (Yes : V → Hp → Prop) (No : Hp → Prop), (f x = true → ∀ (H2 : Hp), Same H' H2 → Yes (el x) H2) → (f x = false → ∀ (H2 : Hp), Same H' H2 → No H2) → Turn g tt te vs σ (en x) H' Yes No)
    (over : ∀ (H' : Hp), Same H1 H' → H' D = some (.lst ((L.filter f).map el)) → Qd H') :
    ∃ W : Nat → Nat → Hp → Prop, (∃ m, W 0 m (upd H1 D (.lst []))) ∧ ∀ i m H, W i m H →
      ((Itl K a).stop i H ∧ Qd H) ∨ ((Itl K a).go i H ∧ ∃ Nx : Hp → Prop, (∀ H', Nx H' → ∃ m', m' < m ∧ W (i + 1) m' H') ∧ ∀ x H', (Itl K a).yld i H x H' → g x (wipe σ vs) H' fun σ2 H2 => wipe σ2 vs = wipe σ vs ∧ tt σ2 H2 fun b H3 =>
        if b = true then te σ2 H3 fun y H4 => ∃ acc, H4 D = some (.lst acc) ∧ acc.length < sizeLine ∧ Nx (upd H4 D (.lst (acc ++ [y]))) else Nx H3) :=
  buS_list (K := K) (a := a) (xs := xs) L en f (fun _ v x => v = el x) (fun _ h => h) hl hx hlen hD
    (fun i x H' hx' s Yes No y n => turn i x H' hx' s Yes No (fun hf H2 s2 => y hf _ H2 s2 rfl) n)
    fun H' zs s hz hR => over H' s (by rw [← hR.el]; exact hz)
theorem buS_range {lo : Int} {n : Nat} (f : Nat → Bool) (R : Hp → V → Nat → Prop) (mono : ∀ {H H' : Hp} {v : V} {x : Nat}, TK H H' → R H v x → R H' v x) (hlen : n ≤ 1000) (hD : H1 D = none)
    (turn : ∀ (i : Nat) (H' : Hp), i < n → Same H1 H' → ∀ (Yes : V → Hp → Prop) (No : Hp → Prop), (f i = true → ∀ (y : V) (H2 : Hp), Same H' H2 → R H2 y i → Yes y H2) → (f i = false → ∀ (H2 : Hp), Same H' H2 → No H2) → Turn g tt te vs σ (.int (lo + (i : Nat))) H' Yes No)
    (over : ∀ (H' : Hp) (zs : List V), Same H1 H' → H' D = some (.lst zs) → Rws R H' zs ((List.range n).filter f) → Qd H') :
    ∃ W : Nat → Nat → Hp → Prop, (∃ m, W 0 m (upd H1 D (.lst []))) ∧ ∀ i m H, W i m H →
      ((Itr lo n).stop i H ∧ Qd H) ∨ ((Itr lo n).go i H ∧ ∃ Nx : Hp → Prop, (∀ H', Nx H' → ∃ m', m' < m ∧ W (i + 1) m' H') ∧ ∀ x H', (Itr lo n).yld i H x H' → g x (wipe σ vs) H' fun σ2 H2 => wipe σ2 vs = wipe σ vs ∧ tt σ2 H2 fun b H3 =>
        if b = true then te σ2 H3 fun y H4 => ∃ acc, H4 D = some (.lst acc) ∧ acc.length < sizeLine ∧ Nx (upd H4 D (.lst (acc ++ [y]))) else Nx H3) :=
  bu_range f R (JS H1 D) mono hlen (JS.start hD) (JS.put hD)
    (fun i H' hx' j _ Yes No y n => turn i H' hx' j.1 Yes No (fun hf v H2 s r => y hf v H2 (j.go s).1 (TK.of_same s) (j.go s).2 r) fun hf H2 s => n hf H2 (j.go s).1 (TK.of_same s) (j.go s).2)
    fun H' zs j hz hR => over H' zs j.1 hz hR
theorem fiS_range {lo : Int} {n : Nat} (f : Nat → Bool) (el : Nat → V) (hlen : n ≤ 1000) (hD : H1 D = none)
    (turn : ∀ (i : Nat) (H' : Hp), i < n → Same H1 H' → ∀ (Yes : V → Hp → Prop) (No : Hp → Prop), (f i = true → ∀ (H2 : Hp), Same H' H2 → Yes (el i) H2) → (f i = false → ∀ (H2 : Hp), Same H' H2 → No H2) → Turn g tt te vs σ (.int (lo + (i : Nat))) H' Yes No)
    (over : ∀ (H' : Hp), Same H1 H' → H' D = some (.lst (((List.range n).filter f).map el)) → Qd H') :
    ∃ W : Nat → Nat → Hp → Prop, (∃ m, W 0 m (upd H1 D (.lst []))) ∧ ∀ i m H, W i m H →
      ((Itr lo n).stop i H ∧ Qd H) ∨ ((Itr lo n).go i H ∧ ∃ Nx : Hp → Prop, (∀ H', Nx H' → ∃ m', m' < m ∧ W (i + 1) m' H') ∧ ∀ x H', (Itr lo n).yld i H x H' → g x (wipe σ vs) H' fun σ2 H2 => wipe σ2 vs = wipe σ vs ∧ tt σ2 H2 fun b H3 =>
        if b = true then te σ2 H3 fun y H4 => ∃ acc, H4 D = some (.lst acc) ∧ acc.length < sizeLine ∧ Nx (upd H4 D (.lst (acc ++ [y]))) else Nx H3) :=
  buS_range f (fun _ v x => v = el x) (fun _ h => h) hlen hD
    (fun i H' hx' s Yes No y n => turn i H' hx' s Yes No (fun hf H2 s2 => y hf _ H2 s2 rfl) n)
    fun H' zs s hz hR => over H' s (by rw [← hR.el]; exact hz)
end
theorem filter_all {α : Type} (L : List α) : L.filter (fun _ => true) = L := List.filter_eq_self.mpr fun _ _ => rfl
/-- a test that is known -/
theorem if_known {c : Bool} {A B : Prop} (yes : c = true → A) (no : c = false → B) : if c = true then A else B := by
  cases c with
  | true => exact if_true_of rfl (yes rfl)
  | false => exact if_false_of rfl (no rfl)
end Td
/-! t[::-1], t a tuple. -/
namespace Td
open PySem PySem.Spec PyProof.Rows L2 HT
section
variable {prog : Program} {w : World} {A : Around} {E : Value → Shared → Prop} {s : Shared}
theorem sliceApplied_rev {sl : Addr} {vs : Value} {n : Nat} {Q : Int × Int × Nat → Shared → Prop} (hs : s.heap.IsSliceOf sl .none .none vs) (ps : IsPart vs (some (-1)))
    (h : Q (((n : Nat) : Int) - 1, -1, n) s) : wpAny (model prog w) A (Builtin.Slice.sliceApplied (.ref sl) (pure (n : Int))) Q E s := by
  obtain ⟨os, hos, hcs, hds⟩ := id hs
  unfold Builtin.Slice.sliceApplied Builtin.Slice.sliceFields
  refine wpAny_bind (wpAny_bind (wpAny_field hos hds (x := .none) rfl (wpAny_bind (wpAny_field hos hds (x := .none) rfl (wpAny_bind (wpAny_field hos hds (x := vs) rfl (wpAny_pure ?_)))))))
  refine wpAny_bind (slicePart_ ps ?_)
  show wpAny _ _ (if ((-1 : Int) == 0) = true then _ else _) _ _ s
  rw [if_neg (by decide)]
  refine wpAny_bind (slicePart_none (wpAny_bind (slicePart_none (wpAny_bind (wpAny_pure ?_)))))
  show wpAny _ _ (match Builtin.Slice.sliceAdjust none none (-1) (n : Int) with | (lo, hi) => pure (lo, (-1 : Int), Builtin.Slice.slicePlaces lo hi (-1))) _ _ s
  have e : Builtin.Slice.sliceAdjust none none (-1) (n : Int) = ((n : Int) - 1, -1) := by
    unfold Builtin.Slice.sliceAdjust
    simp
  rw [e]
  have e2 : Builtin.Slice.slicePlaces ((n : Int) - 1) (-1) (-1) = n := by
    unfold Builtin.Slice.slicePlaces
    have h1 : ¬ ((-1 : Int) > 0) := by omega
    simp only [h1, if_false]
    split <;> simp <;> omega
  show wpAny _ _ (pure ((n : Int) - 1, (-1 : Int), Builtin.Slice.slicePlaces ((n : Int) - 1) (-1) (-1))) _ _ s
  rw [e2]
  exact wpAny_pure h
theorem fm_congr {α β : Type} {f g : α → Option β} : ∀ {l : List α}, (∀ x ∈ l, f x = g x) → l.filterMap f = l.filterMap g
  | [], _ => rfl
  | x :: l, h => by
    rw [List.filterMap_cons, List.filterMap_cons, h x List.mem_cons_self, fm_congr fun y hy => h y (List.mem_cons_of_mem _ hy)]
theorem pick_rev (xs : Array Value) : ((List.range xs.size).filterMap fun (m : Nat) => xs[(((xs.size : Nat) : Int) - 1 + (m : Int) * (-1)).toNat]?).toArray = xs.toList.reverse.toArray := by
  congr 1
  have e : ((List.range xs.size).filterMap fun (m : Nat) => xs[(((xs.size : Nat) : Int) - 1 + (m : Int) * (-1)).toNat]?) = ((List.range xs.size).map fun k => xs.size - 1 - k).filterMap (xs[·]?) := by
    rw [List.filterMap_map]
    refine fm_congr fun k hk => ?_
    have := List.mem_range.mp hk
    show _ = xs[xs.size - 1 - k]?
    congr 1
    omega
  rw [e, PySem.W.krv_range, List.filterMap_reverse, PySem.W.krv_all]
theorem getItem_tuple_rev {t sl : Addr} {items : Array Value} {vs : Value} {Q : Value → Shared → Prop} (ht : IsTup s.heap t items) (hs : s.heap.IsSliceOf sl .none .none vs) (ps : IsPart vs (some (-1)))
    (h : Q (.ref s.heap.objs.size) { s with heap := s.heap.push { cls := .type "tuple", data := .seq items.toList.reverse.toArray } })
    (hsz : items.size ≤ sizeLine) : wpAny (model prog w) A (getItem (.ref t) (.ref sl)) Q E s := by
  have htake : sizeOk (.seq items.toList.reverse.toArray) := by
    show items.toList.reverse.toArray.size ≤ sizeLine
    rw [List.size_toArray, List.length_reverse, Array.length_toList]
    omega
  obtain ⟨os, hos, hcs, hds⟩ := id hs
  have hTs : s.TypeIs (.ref sl) "slice" := ⟨os, hos, hcs⟩
  unfold getItem
  try with_reducible refine wpAny_holding ?_
  first | refine wpAny_bind (wpAny_pure ?_) | skip
  refine wpAny_bind (wpAny_sequenceKey ht.typeIs (by decide) ?_)
  refine wpAny_bind (wpAny_callSpecial?_slot (name := Str.ofString "__getitem__") ht.typeIs PyProof.Rows.slot_tuple_getitem
    (wpAny_call_entry PyProof.Rows.slot_tuple_getitem ht.typeIs entry_tuple_getitem ?_ (args_tuple_getitem _ _)))
  show wpAny _ _ (Builtin.Tuple.tupleItemsOf (.ref t) >>= _) _ _ s
  refine wpAny_bind (tupleItemsOf_ ht ?_)
  refine wpAny_bind (wpAny_typeOf hTs ?_)
  rw [if_pos (by decide)]
  refine wpAny_bind (sliceApplied_rev hs ps ?_)
  have hno : ¬ ((((items.size : Nat) : Int) - 1 == 0 && (-1 : Int) == 1 && items.size == items.size) = true) := by
    intro q
    rw [Bool.and_eq_true, Bool.and_eq_true] at q
    exact absurd q.1.2 (by decide)
  show wpAny _ _ (if ((((items.size : Nat) : Int) - 1 == 0 && (-1 : Int) == 1 && items.size == items.size) = true) then _ else _) _ _ s
  rw [if_neg hno, pick_rev]
  first
    | exact wpAny_bind (m := Builtin.Tuple.tupleExact _) (wpAny_newObj_type (wpAny_pure ⟨_, rfl, wpAny_pure h⟩) htake)
    | exact wpAny_bind (m := Builtin.Tuple.tupleExact _) (wpAny_newObj_type (wpAny_bind (wpAny_pure (wpAny_pure ⟨_, rfl, wpAny_pure h⟩))) htake)
    | exact wpAny_bind (wpAny_bind (m := Builtin.Tuple.tupleExact _) (wpAny_newObj_type (wpAny_pure (wpAny_pure ⟨_, rfl, wpAny_pure h⟩)) htake))
    | exact wpAny_bind (wpAny_bind (m := Builtin.Tuple.tupleExact _) (wpAny_newObj_type (wpAny_pure ⟨_, rfl, wpAny_pure h⟩) htake))
end
section
variable {X : Cx} {e k : Expr} {te tk : TE} {pos p2 : Pos}
theorem vals_reverse {xs : List V} {us : List Value} (h : Vals xs us) : Vals xs.reverse us.reverse := by
  induction h with
  | nil => exact .nil
  | cons r t ih =>
    rw [List.reverse_cons, List.reverse_cons]
    exact ih.append (.cons r .nil)
def tSlRev (K : PySem.W.Frag) (te tk : TE) : TE := fun σ H Q => te σ H fun x H1 => tk σ H1 fun y H2 => y = .int (-1) ∧ ∃ a xs, x = .ref a ∧ SqT K H2 a xs ∧ ∀ p, H2 p = none → Q (.ref p) (upd H2 p (.tup xs.reverse))
theorem pe_sliceRev (he : PE X e te) (hk : PE X k tk) : PE X (.Subscript e (.Slice none none (some k) p2) pos) (tSlRev X.K te tk) := by
  refine ⟨fun pins s σ H Q I h => ?_⟩
  refine Subscript_ (thn (he.run pins s σ H _ I h) fun v s1 ⟨x, H1, I1, r1, q1⟩ => ?_)
  refine wpAny_Slice ?_
  rw [evalPart_none]
  refine wpAny_pure ?_
  refine wpAny_pure ?_
  rw [evalPart_some]
  refine thn (hk.run pins s1 σ H1 _ I1 q1) fun u s2 ⟨y, H2, I2, r2, q2⟩ => ?_
  obtain ⟨rfl, a, xs, rfl, hx, q⟩ := q2
  cases r1
  obtain ⟨t, rfl⟩ := r2
  have I4 : Inv X pins σ H2 { s2 with heap := s2.heap.push { cls := .type "slice", data := .fields #[.none, .none, .int (-1) t] } } := I2.kept (t' := s2.toks) fun b ob q => Heap.get?_push_of_some _ q
  obtain ⟨its, r, ht, hz⟩ := I4.tuple hx
  have hg : wpAny (model X.prog X.w) X.A (getItem (.ref a) (.ref s2.heap.objs.size)) (EP X pins σ Q) X.xe { s2 with heap := s2.heap.push { cls := .type "slice", data := .fields #[.none, .none, .int (-1) t] } } := by
    refine getItem_tuple_rev ht (Heap.IsSliceOf.new ..) (.int (-1) t) ?_ (by rw [List.size_toArray, ← r.length]; exact hz)
    have ez : its.toArray.toList.reverse.toArray = its.reverse.toArray := rfl
    refine ⟨.ref _, _, I4.laid (t' := s2.toks) (o := .tup xs.reverse) (fun b ob q => Heap.get?_push_of_some _ q) (Nat.le_refl _) ?_, rfl, q _ (I4.hok.fresh (Nat.le_refl _))⟩
    exact ⟨by rw [List.length_reverse]; exact hz, _, vals_reverse r, IsTup.new _ _⟩
  show wpAny (model X.prog X.w) X.A (subscriptTail e (.Slice none none (some k) p2) (.ref a) (.ref s2.heap.objs.size)) (EP X pins σ Q) X.xe { s2 with heap := s2.heap.push { cls := .type "slice", data := .fields #[.none, .none, .int (-1) t] } }
  exact tail_any (ops := [.ref a, .ref s2.heap.objs.size]) ht.typeIs PyProof.Rows.slot_tuple_getitem.lookup hg (by with_unfolding_all rfl)
end
end Td
/-! Texts: a list extended by a tuple; t[::2], t[1::2]; tuple(zip(t, u)). -/
namespace Td
open PySem PySem.Spec PyProof.Rows L2 HT
theorem extMeets (D : Addr) (old : Array Value) (c : Nat) (T : Addr) (add : Array Value) (e : Nat) (dd : Option Addr) (sl : Array (Option Value)) (a1 : ¬(!old.isEmpty && Builtin.List.listTooLong (old.size + add.size)) = true) (a2 : old.size ≤ sizeLine) (a3 : old.size + add.size ≤ sizeLine + 1) :
    Meets (Builtin.«list.extend» ⟨[.ref D, .ref T], []⟩) (fun _ R s => s.heap.get? D = some { cls := .type "list", dict := none, data := .seq old c, slots := #[] } ∧ s.heap.get? T = some { cls := .type "tuple", dict := dd, data := .seq add e, slots := sl } ∧
      R (.ok (.ret Value.none)) { s with heap := s.heap.update D (Obj.mapSeq fun x => x ++ add), toks := s.toks }) := by
  refine .of_wp fun prog w A R st k => ?_
  obtain ⟨hp, gs, dr, tk, os⟩ := st
  obtain ⟨oD, oT, fin⟩ := k
  have g0 := PySem.AutoSeq1.idx_int
  have g1 := PySem.AutoSeq1.sub_tuple_tuple
  have g2 := PySem.AutoSeq1.sub_list_list
  have g3 := PySem.AutoSeq1.sub_tuple_list
  have g4 := PySem.AutoSeq1.sub_list_tuple
  have room : (old ++ add).size ≤ sizeLine + 1 := by rw [Array.size_append]; exact a3
  wp_walk using (wpAny_updateSeq oD rfl (hz := a2) (_hz' := room)), PySem.AutoSeq1.wpAny_loadPart' oD, PySem.AutoSeq1.wpAny_loadPart' oT
  exact ⟨_, rfl, fin⟩
section
variable {X : Cx}
/-- l.extend(t), t a tuple -/
def rExtT (K : PySem.W.Frag) : V → List V → Hp → VK → Prop := fun x vs H Q => ∃ (l b : Addr) (xs zs : List V), x = .ref l ∧ vs = [.ref b] ∧ H l = some (.lst xs) ∧ SqT K H b zs ∧ xs.length + zs.length ≤ sizeLine ∧ Q .non (upd H l (.lst (xs ++ zs)))
theorem mt_extT : MtM X "list.extend" (rExtT X.K) := by
  rintro pins s σ H x vs v us Q I rx rv ⟨l, b, xs, zs, rfl, rfl, eL, eB, room, go⟩
  cases rx
  obtain ⟨u, rfl, ru⟩ := rv.one
  cases ru
  obtain ⟨zl, its, n, ra, hl, oL⟩ := I.lstM eL
  obtain ⟨us, rb, tb, zb⟩ := I.tuple eB
  obtain ⟨ob, hob, hcb, nb, hdb⟩ := id tb
  have la := ra.length
  have lb := rb.length
  have few : its.toArray.size + us.toArray.size ≤ sizeLine := by rw [List.size_toArray, List.size_toArray]; omega
  have short : ¬ (!its.toArray.isEmpty && Builtin.List.listTooLong (its.toArray.size + us.toArray.size)) = true := fun z => by
    rw [notLongL few, Bool.and_false] at z
    cases z
  obtain ⟨cl, dd, dt, sl⟩ := ob
  obtain rfl : cl = .type "tuple" := hcb
  obtain rfl : dt = .seq us.toArray nb := hdb
  refine call_meets F.slot_list_extend ⟨_, oL, rfl⟩ F.entry_list_extend (F.args_list_extend_2 _ _) (extMeets l its.toArray n b us.toArray nb dd sl short (by rw [List.size_toArray]; omega) (by omega)) ⟨oL, hob, ?_⟩
  refine ⟨.non, _, I.lset (its' := its ++ us) eL oL (by simp) (ra.append rb) ?_, rfl, go⟩
  rw [List.length_append]
  omega
end
/-! ### t[b::2] -/
/-- every second item from place b on, k of them -/
def stp {α : Type} (b k : Nat) (xs : List α) : List α := (List.range k).filterMap fun m => xs[b + m * 2]?
theorem stp_vals {xs : List V} {us : List Value} (h : Vals xs us) : ∀ (js : List Nat), Vals (js.filterMap fun j => xs[j]?) (js.filterMap fun j => us[j]?)
  | [] => .nil
  | j :: js => by
    have ih := stp_vals h js
    cases e : xs[j]? with
    | none =>
      have e2 : us[j]? = none := by
        rw [List.getElem?_eq_none_iff] at e ⊢
        rw [← h.length]; exact e
      rw [List.filterMap_cons_none e, List.filterMap_cons_none e2]
      exact ih
    | some x =>
      have lt := (List.getElem?_eq_some_iff.mp e).1
      obtain ⟨u, hu, r⟩ := h.get e
      rw [List.filterMap_cons_some e, List.filterMap_cons_some hu]
      exact .cons r ih
theorem stp_map {α : Type} (b k : Nat) (xs : List α) : stp b k xs = ((List.range k).map fun m => b + m * 2).filterMap fun j => xs[j]? := by
  unfold stp
  rw [List.filterMap_map]
  rfl
theorem stp_len {α : Type} (b k : Nat) (xs : List α) : (stp b k xs).length ≤ k := by
  unfold stp
  exact Nat.le_trans (List.length_filterMap_le ..) (Nat.le_of_eq List.length_range)
/-- pairs in a row, and one side of them -/
def flat2 {α β : Type} (f g : α → β) (ps : List α) : List β := ps.flatMap fun p => [f p, g p]
theorem flat2_len {α β : Type} (f g : α → β) : ∀ ps : List α, (flat2 f g ps).length = ps.length * 2
  | [] => rfl
  | p :: ps => by
    show (f p :: g p :: flat2 f g ps).length = _
    rw [List.length_cons, List.length_cons, flat2_len f g ps, List.length_cons]
    omega
theorem flat2_at {α β : Type} (f g : α → β) : ∀ (ps : List α) (m : Nat), (flat2 f g ps)[0 + m * 2]? = (ps[m]?).map f ∧ (flat2 f g ps)[1 + m * 2]? = (ps[m]?).map g
  | [], m => by simp [flat2]
  | p :: ps, 0 => ⟨rfl, rfl⟩
  | p :: ps, m + 1 => by
    obtain ⟨a, b⟩ := flat2_at f g ps m
    show (f p :: g p :: flat2 f g ps)[0 + (m + 1) * 2]? = _ ∧ (f p :: g p :: flat2 f g ps)[1 + (m + 1) * 2]? = _
    refine ⟨?_, ?_⟩
    · rw [show 0 + (m + 1) * 2 = (0 + m * 2) + 1 + 1 by omega, List.getElem?_cons_succ, List.getElem?_cons_succ, a]; rfl
    · rw [show 1 + (m + 1) * 2 = (1 + m * 2) + 1 + 1 by omega, List.getElem?_cons_succ, List.getElem?_cons_succ, b]; rfl
theorem range_pick {α β : Type} (h : α → β) : ∀ (ps : List α) {F : Nat → Option β}, (∀ m, F m = (ps[m]?).map h) → (List.range ps.length).filterMap F = ps.map h := fun ps F e => by
  refine List.ext_getElem? fun i => ?_
  have e2 : (List.range ps.length).filterMap F = (List.range ps.length).filterMap fun m => (ps[m]?).map h := by
    congr 1
    funext m
    exact e m
  rw [e2]
  clear e e2
  induction ps generalizing i with
  | nil => rfl
  | cons p ps ih =>
    rw [List.length_cons, List.range_succ_eq_map, List.filterMap_cons_some (f := fun m => ((p :: ps)[m]?).map h) (b := h p) rfl, List.filterMap_map]
    show (h p :: (List.range ps.length).filterMap fun m => (ps[m]?).map h)[i]? = (h p :: ps.map h)[i]?
    cases i with
    | zero => rfl
    | succ i => rw [List.getElem?_cons_succ, List.getElem?_cons_succ]; exact ih i
theorem stp_flat {α β : Type} (f g : α → β) (ps : List α) : stp 0 ps.length (flat2 f g ps) = ps.map f ∧ stp 1 ps.length (flat2 f g ps) = ps.map g :=
  ⟨range_pick f ps fun m => (flat2_at f g ps m).1, range_pick g ps fun m => (flat2_at f g ps m).2⟩
/-- the places of t[b::2] -/
def plc (b n : Nat) : Nat := if b < n then (n - b - 1) / 2 + 1 else 0
section
variable {prog : Program} {w : World} {A : Around} {E : Value → Shared → Prop} {s : Shared}
theorem stepApplied {sl : Addr} {vl vs : Value} {l : Option Int} {b n : Nat} {Q : Int × Int × Nat → Shared → Prop} (hs : s.heap.IsSliceOf sl vl .none vs) (pl : IsPart vl l) (ps : IsPart vs (some 2)) (hb : (l = none ∧ b = 0) ∨ (l = some ((b : Nat) : Int) ∧ b ≤ n))
    (h : Q (((b : Nat) : Int), 2, plc b n) s) : wpAny (model prog w) A (Builtin.Slice.sliceApplied (.ref sl) (pure (n : Int))) Q E s := by
  obtain ⟨os, hos, hcs, hds⟩ := id hs
  unfold Builtin.Slice.sliceApplied Builtin.Slice.sliceFields
  refine wpAny_bind (wpAny_bind (wpAny_field hos hds (x := vl) rfl (wpAny_bind (wpAny_field hos hds (x := .none) rfl (wpAny_bind (wpAny_field hos hds (x := vs) rfl (wpAny_pure ?_)))))))
  refine wpAny_bind (slicePart_ ps ?_)
  show wpAny _ _ (if ((2 : Int) == 0) = true then _ else _) _ _ s
  rw [if_neg (by decide)]
  refine wpAny_bind (slicePart_ pl (wpAny_bind (slicePart_none (wpAny_bind (wpAny_pure ?_)))))
  have e : Builtin.Slice.sliceAdjust l none 2 (n : Int) = (((b : Nat) : Int), (n : Int)) := by
    unfold Builtin.Slice.sliceAdjust
    rcases hb with ⟨rfl, rfl⟩ | ⟨rfl, hb⟩
    · simp
    · have h1 : ¬ ((2 : Int) < 0) := by omega
      have h2 : ¬ (((b : Nat) : Int) < 0) := by omega
      simp only [h1, h2, if_false]
      rw [Prod.mk.injEq]
      exact ⟨by omega, rfl⟩
  have e2 : Builtin.Slice.slicePlaces ((b : Nat) : Int) (n : Int) 2 = plc b n := by
    unfold Builtin.Slice.slicePlaces plc
    have h1 : (2 : Int) > 0 := by omega
    rw [if_pos h1]
    by_cases h : b < n
    · rw [if_pos h, if_pos (by omega)]
      omega
    · rw [if_neg h, if_neg (by omega)]
      rfl
  show wpAny _ _ (match Builtin.Slice.sliceAdjust l none 2 (n : Int) with | (lo, hi) => pure (lo, (2 : Int), Builtin.Slice.slicePlaces lo hi 2)) _ _ s
  rw [e]
  show wpAny _ _ (pure (((b : Nat) : Int), (2 : Int), Builtin.Slice.slicePlaces ((b : Nat) : Int) (n : Int) 2)) _ _ s
  rw [e2]
  exact wpAny_pure h
theorem getItem_step {t sl : Addr} {items : Array Value} {vl vs : Value} {l : Option Int} {b : Nat} {Q : Value → Shared → Prop} (ht : IsTup s.heap t items) (hs : s.heap.IsSliceOf sl vl .none vs) (pl : IsPart vl l) (ps : IsPart vs (some 2)) (hb : (l = none ∧ b = 0) ∨ (l = some ((b : Nat) : Int) ∧ b ≤ items.size))
    (h : Q (.ref s.heap.objs.size) { s with heap := s.heap.push { cls := .type "tuple", data := .seq (stp b (plc b items.size) items.toList).toArray } })
    (hsz : items.size ≤ sizeLine) : wpAny (model prog w) A (getItem (.ref t) (.ref sl)) Q E s := by
  have few : plc b items.size ≤ items.size := by unfold plc; split <;> omega
  have fit : sizeOk (.seq (stp b (plc b items.size) items.toList).toArray) := by
    show (stp b (plc b items.size) items.toList).toArray.size ≤ sizeLine
    rw [List.size_toArray]
    exact Nat.le_trans (stp_len ..) (by omega)
  obtain ⟨os, hos, hcs, hds⟩ := id hs
  have tS : s.TypeIs (.ref sl) "slice" := ⟨os, hos, hcs⟩
  unfold getItem
  try with_reducible refine wpAny_holding ?_
  first | refine wpAny_bind (wpAny_pure ?_) | skip
  refine wpAny_bind (wpAny_sequenceKey ht.typeIs (by decide) ?_)
  refine wpAny_bind (wpAny_callSpecial?_slot (name := Str.ofString "__getitem__") ht.typeIs PyProof.Rows.slot_tuple_getitem
    (wpAny_call_entry PyProof.Rows.slot_tuple_getitem ht.typeIs entry_tuple_getitem ?_ (args_tuple_getitem _ _)))
  show wpAny _ _ (Builtin.Tuple.tupleItemsOf (.ref t) >>= _) _ _ s
  refine wpAny_bind (tupleItemsOf_ ht ?_)
  refine wpAny_bind (wpAny_typeOf tS ?_)
  rw [if_pos (by decide)]
  refine wpAny_bind (stepApplied hs pl ps hb ?_)
  have hno : ¬ ((((b : Nat) : Int) == 0 && (2 : Int) == 1 && plc b items.size == items.size) = true) := by
    intro q
    rw [Bool.and_eq_true, Bool.and_eq_true] at q
    exact absurd q.1.2 (by decide)
  show wpAny _ _ (if ((((b : Nat) : Int) == 0 && (2 : Int) == 1 && plc b items.size == items.size) = true) then _ else _) _ _ s
  rw [if_neg hno]
  have ep : ((List.range (plc b items.size)).filterMap fun (m : Nat) => items[(((b : Nat) : Int) + (m : Int) * 2).toNat]?).toArray = (stp b (plc b items.size) items.toList).toArray := by
    unfold stp
    congr 2
    funext m
    rw [Array.getElem?_toList, show (((b : Nat) : Int) + (m : Int) * 2).toNat = b + m * 2 by omega]
  rw [ep]
  first
    | exact wpAny_bind (m := Builtin.Tuple.tupleExact _) (wpAny_newObj_type (wpAny_pure ⟨_, rfl, wpAny_pure h⟩) fit)
    | exact wpAny_bind (m := Builtin.Tuple.tupleExact _) (wpAny_newObj_type (wpAny_bind (wpAny_pure (wpAny_pure ⟨_, rfl, wpAny_pure h⟩))) fit)
    | exact wpAny_bind (wpAny_bind (m := Builtin.Tuple.tupleExact _) (wpAny_newObj_type (wpAny_pure (wpAny_pure ⟨_, rfl, wpAny_pure h⟩)) fit))
    | exact wpAny_bind (wpAny_bind (m := Builtin.Tuple.tupleExact _) (wpAny_newObj_type (wpAny_pure ⟨_, rfl, wpAny_pure h⟩) fit))
end
section
variable {X : Cx} {e k : Expr} {lo : Option Expr} {te tk : TE} {tl : TO} {pos p2 : Pos}
/-- t[::2] or t[1::2] of a tuple of pairs in a row -/
def tStep (K : PySem.W.Frag) (te : TE) (tl : TO) (tk : TE) : TE := fun σ H Q => te σ H fun x H1 => tl σ H1 fun l H2 => tk σ H2 fun y H3 => y = .int 2 ∧ ∃ (a : Addr) (xs : List V) (b : Nat), x = .ref a ∧ SqT K H3 a xs ∧ ((l = none ∧ b = 0) ∨ (l = some ((b : Nat) : Int) ∧ b ≤ xs.length)) ∧
  ∀ p, H3 p = none → Q (.ref p) (upd H3 p (.tup (stp b (plc b xs.length) xs)))
theorem pe_step (he : PE X e te) (hl : PO X lo tl) (hk : PE X k tk) : PE X (.Subscript e (.Slice lo none (some k) p2) pos) (tStep X.K te tl tk) := by
  refine ⟨fun pins s σ H Q I h => ?_⟩
  refine Subscript_ (thn (he.run pins s σ H _ I h) fun v s1 ⟨x, H1, I1, r1, q1⟩ => ?_)
  refine wpAny_Slice (thn (hl.run pins s1 σ H1 _ I1 q1) fun vl s2 ⟨l, H2, I2, pl, q2⟩ => ?_)
  rw [evalPart_none]
  refine wpAny_pure ?_
  rw [evalPart_some]
  refine thn (hk.run pins s2 σ H2 _ I2 q2) fun u s3 ⟨y, H3, I3, r3, q3⟩ => ?_
  obtain ⟨rfl, a, xs, b, rfl, hx, hb, q⟩ := q3
  cases r1
  obtain ⟨t, rfl⟩ := r3
  have I4 : Inv X pins σ H3 { s3 with heap := s3.heap.push { cls := .type "slice", data := .fields #[vl, .none, .int 2 t] } } := I3.kept (t' := s3.toks) fun b ob q => Heap.get?_push_of_some _ q
  obtain ⟨its, r, ht, hz⟩ := I4.tuple hx
  have el := r.length
  have hg : wpAny (model X.prog X.w) X.A (getItem (.ref a) (.ref s3.heap.objs.size)) (EP X pins σ Q) X.xe { s3 with heap := s3.heap.push { cls := .type "slice", data := .fields #[vl, .none, .int 2 t] } } := by
    refine getItem_step (l := l) (b := b) ht (Heap.IsSliceOf.new ..) pl (.int 2 t) (hb.elim .inl fun z => .inr ⟨z.1, by rw [List.size_toArray, ← el]; exact z.2⟩) ?_ (by rw [List.size_toArray, ← el]; exact hz)
    have en : plc b its.toArray.size = plc b xs.length := by rw [List.size_toArray, ← el]
    rw [en]
    have hv : Vals (stp b (plc b xs.length) xs) (stp b (plc b xs.length) its) := by rw [stp_map, stp_map]; exact stp_vals r _
    refine ⟨.ref _, _, I4.laid (t' := s3.toks) (o := .tup (stp b (plc b xs.length) xs)) (fun b ob q => Heap.get?_push_of_some _ q) (Nat.le_refl _) ?_, rfl, q _ (I4.hok.fresh (Nat.le_refl _))⟩
    refine ⟨Nat.le_trans (stp_len ..) ?_, _, hv, IsTup.new _ _⟩
    unfold plc
    split <;> omega
  show wpAny (model X.prog X.w) X.A (subscriptTail e (.Slice lo none (some k) p2) (.ref a) (.ref s3.heap.objs.size)) (EP X pins σ Q) X.xe { s3 with heap := s3.heap.push { cls := .type "slice", data := .fields #[vl, .none, .int 2 t] } }
  exact tail_any (ops := [.ref a, .ref s3.heap.objs.size]) ht.typeIs PyProof.Rows.slot_tuple_getitem.lookup hg (by with_unfolding_all rfl)
end
end Td
/-! factorial of small numbers, the count of True in a list of truths, a call of what an expression gives. -/
namespace Td
open PySem PySem.Spec PyProof.Rows L2
section
variable {X : Cx}
def facN (n : Nat) : Nat := Builtin.Math.factorialNat n
def rFac : List V → Hp → VK → Prop := fun vs H Q => ∃ n : Nat, vs = [.int (n : Nat)] ∧ n ≤ 12 ∧ Q (.int ((facN n : Nat) : Int)) H
theorem fac_small : ∀ n, n ≤ 12 → facN n < 2 ^ 40 := by decide +kernel
theorem cr_factorial : CallR X (.builtin "math.factorial") rFac := by
  intro pins s σ H vs us Q I r h
  obtain ⟨n, rfl, hn, q⟩ := h
  obtain ⟨u, rfl, t, rfl⟩ := r.one
  have b := fac_small n hn
  unfold facN at b q
  refine PySem.W.mg_factorial (by show ¬ (n : Int) > 2 ^ 63 - 1; omega) (by omega) (by show ¬ (n : Int) > 20000; omega) ?_ ⟨.int _, H, I.tok _, ⟨_, rfl⟩, q⟩
  rw [Int.toNat_natCast, Int.natAbs_natCast]
  have : (Builtin.Math.factorialNat n).log2 ≤ 40 := by
    by_cases h0 : Builtin.Math.factorialNat n = 0
    · rw [h0]; decide
    · exact Nat.le_of_lt_succ (Nat.lt_succ_of_lt ((Nat.log2_lt h0).mpr b))
  exact Nat.lt_of_le_of_lt this (by decide)
def isTrueV (v : Value) : Bool := match v with
  | .bool b => b
  | _ => false
theorem bools_of : ∀ {bs : List Bool} {us : List Value}, Vals (bs.map V.bl) us → us = bs.map Value.bool
  | [], us, h => by cases h; rfl
  | b :: bs, us, h => by
    cases h with
    | cons a r =>
      cases a
      rw [bools_of r]
      rfl
def rCntB (K : PySem.W.Frag) : V → List V → Hp → VK → Prop := fun x xs H Q => ∃ (p : Addr) (bs : List Bool), x = .ref p ∧ xs = [.bl true] ∧ SqL K H p (bs.map V.bl) ∧ Q (.int (bs.count true : Nat)) H
theorem mt_lcountB : MtR X "list.count" (rCntB X.K) := by
  intro pins s σ H x xs v us Q I rx rxs h
  obtain ⟨p, bs, rfl, rfl, hs, q⟩ := h
  cases rx
  obtain ⟨u, rfl, ru⟩ := rxs.one
  cases ru
  obtain ⟨its, rv, ⟨⟨cls, dd, data, sl⟩, n, ho, hc, hdn, hd⟩, hlen⟩ := I.list hs
  simp only at hc hd
  subst hc hd
  have hi := bools_of rv
  refine call_meets PySem.F.slot_list_count ⟨_, ho, rfl⟩ PySem.F.entry_list_count (PySem.F.args_list_count_2 _ _)
    (SeqAt.list_countAt p its.toArray n dd sl (.bool true) isTrueV) ⟨ho, fun y hy => ?_, ?_⟩
  · have hy' : y ∈ bs.map Value.bool := by rw [← hi]; simpa using hy
    obtain ⟨b, _, rfl⟩ := List.mem_map.mp hy'
    have := SeqAt.EqAt.bool_bool (A := X.A.in1) (s := s) b true
    have e : (b == true) = isTrueV (.bool b) := by cases b <;> rfl
    rw [e] at this
    exact this
  · have ec : its.toArray.toList.countP isTrueV = bs.count true := by
      show its.countP isTrueV = _
      rw [hi, List.countP_map, List.count]
      refine List.countP_congr fun b _ => ?_
      cases b <;> simp [isTrueV]
    refine ⟨.int (bs.count true : Nat), H, I.tok _, ⟨s.toks, ?_⟩, q⟩
    show Value.int ((its.toArray.toList.countP isTrueV : Nat) : Int) s.toks = Value.int ((bs.count true : Nat) : Int) s.toks
    rw [ec]
end
/-! ### a call of a def that an expression gives, of several that it may give -/
/-- a def with what it promises, its own exceptions let through -/
structure HeldE (P : Program) (w : World) (K : PySem.W.Frag) (mg : Str → Option Value) (base : Heap) (CX : CXT) (k : Nat) (f : Addr) (sp : Sp) : Prop where
  ex : ∃ (fd : FuncData) (ps : List Str), FnOk P w K mg base CX k f fd ps sp ∧ PySem.W.keepIn K (.ref f) = true ∧ Binds K fd ps []
def tCallE (S : Addr → Sp → Prop) (E : XK) (tf : TE) (t : TA) : TE := fun σ H Q => tf σ H fun y H1 => ∃ f sp, y = V.ref f ∧ S f sp ∧ t σ H1 fun vs H2 => sp vs H2 Q E
section
variable {X : Cx} {CX : CXT} {k : Nat} {p pos : Pos} {fe e : Expr} {es : List Expr} {tf : TE} {t : TA} {E : XK}
theorem pe_callE {S : Addr → Sp → Prop} (A : ∀ f sp, S f sp → HeldE X.prog X.w X.K X.mg X.base CX k f sp) (hr : Room k X.A) (hx : Passes CX X E) (hf : PE X fe tf) (ha : PA X (e :: es) t)
    (ht : eval (.Call fe (e :: es) [] pos) X.env = (do callWith pos (← eval fe X.env) [] (backTo pos (starEach (e :: es) X.env)) (backToKw pos (keywordEach [] X.env))) := by rfl)
    (he : starEach (e :: es) X.env = (false, eval e X.env) :: starEach es X.env := by rfl) (hpl : (backTo pos (starEach es X.env)).any (·.1) = false := by rfl) : PE X (.Call fe (e :: es) [] pos) (tCallE S E tf t) := by
  refine ⟨fun pins s σ H Q I h => ?_⟩
  refine Call_ (thn (hf.run pins s σ H _ I h) fun u s1 ⟨y, H1, I1, ry, f, sp, ey, hS, q⟩ => ?_) ht
  subst ey
  obtain rfl : u = Value.ref f := ry
  obtain ⟨fd, ps, F, hk, hb⟩ := (A f sp hS).ex
  refine PySem.W.callWith_K (h₀ := X.base) I1.ok.mod.kin hk (thn (ha.run pos pins s1 σ H1 _ I1 q) fun us s2 ⟨vs, H2, I2, r, q2⟩ => ⟨I2.kIn, ?_⟩) he hpl
  refine run_fn F hr hb .nil hx I2 r ?_
  rw [List.append_nil]
  exact q2
end
end Td
/-! A text so many times. -/
namespace Td
open PySem PySem.Spec PyProof.Rows L2
section
variable {X : Cx}
def rMulS : R2 := fun x y H Q => ∃ (z : Str) (n : Int), x = .str z ∧ y = .int n ∧ z.length ≤ 100 ∧ 0 ≤ n ∧ n ≤ 100 ∧ Q (.str (Txt.mul z n)) H
theorem op_mul_str : OpR X (binaryOp .Mult) rMulS := by
  intro pins s σ H x y v u Q I rx ry h
  obtain ⟨z, n, rfl, rfl, hz, h0, h1, q⟩ := h
  obtain ⟨t, rfl⟩ := rx
  obtain ⟨t', rfl⟩ := ry
  exact SB.mul (mulOk_of 100 100 hz h1 (by omega) (by omega) (by omega)) fun t' k => ⟨.str (Txt.mul z n), H, I.tok _, ⟨_, rfl⟩, q⟩
end
end Td
/-! A tuple that is not empty times 0 or 1 or more. -/
namespace Td
open PySem PySem.Spec PyProof.Rows L2
/-- once: the tuple itself -/
theorem tmOne (l : Addr) (items : Array Value) (n : Nat) (dd : Option Addr) (sl : Array (Option Value)) (u : Tok) :
    Meets (Builtin.«tuple.__mul__» ⟨[.ref l, .int 1 u], []⟩) (fun _ R s => s.heap.get? l = some { cls := .type "tuple", dict := dd, data := .seq items n, slots := sl } ∧ R (.ok (.ret (Value.ref l))) s) :=
  .of_wp fun prog w A R s h => by
    obtain ⟨hp, g, d, tk, os⟩ := s
    obtain ⟨hl, h⟩ := h
    have f1 := AutoSeq1.idx_int
    have c0 : (decide ((1 : Int) < -(2 ^ 63)) || decide ((1 : Int) ≥ 2 ^ 63)) = false := by decide
    have c1 : (items.isEmpty || (1 : Int) == 1) = true := by rw [show ((1 : Int) == 1) = true from rfl, Bool.or_true]
    wp_walk using wpAny_loadPart' hl
    repeat (first
      | (refine wpAny_ite_false (decide_eq_false (by rw [c0]; exact Bool.false_ne_true)) ?_; wp_walk using wpAny_loadPart' hl)
      | (refine wpAny_ite_true (decide_eq_true c1) ?_; wp_walk using wpAny_loadPart' hl))
    exact ⟨_, rfl, h⟩
/-- not at all: an empty tuple -/
theorem tmNone (l : Addr) (items : Array Value) (n : Nat) (dd : Option Addr) (sl : Array (Option Value)) (u : Tok) (hne : items.isEmpty = false) :
    Meets (Builtin.«tuple.__mul__» ⟨[.ref l, .int 0 u], []⟩) (fun _ R s => s.heap.get? l = some { cls := .type "tuple", dict := dd, data := .seq items n, slots := sl } ∧
      R (.ok (.ret (Value.ref s.heap.objs.size))) { s with heap := s.heap.push { cls := Value.type "tuple", data := Data.seq #[] }, toks := s.toks }) :=
  .of_wp fun prog w A R s h => by
    obtain ⟨hp, g, d, tk, os⟩ := s
    obtain ⟨hl, h⟩ := h
    have f1 := AutoSeq1.idx_int
    have c0 : (decide ((0 : Int) < -(2 ^ 63)) || decide ((0 : Int) ≥ 2 ^ 63)) = false := by decide
    have c1 : (items.isEmpty || (0 : Int) == 1) = false := by rw [hne]; rfl
    have c2 : (decide ((0 : Int) ≤ 0) || items.isEmpty) = true := by rw [hne]; rfl
    wp_walk using wpAny_loadPart' hl
    repeat (first
      | (refine wpAny_ite_false (decide_eq_false (by rw [c0]; exact Bool.false_ne_true)) ?_; wp_walk using wpAny_loadPart' hl)
      | (refine wpAny_ite_false (decide_eq_false (by rw [c1]; exact Bool.false_ne_true)) ?_; wp_walk using wpAny_loadPart' hl)
      | (refine wpAny_ite_true (decide_eq_true c2) ?_; wp_walk using wpAny_loadPart' hl))
    exact ⟨_, rfl, h⟩
def rRepA (K : PySem.W.Frag) : R2 := fun x y H Q => ∃ l k xs, x = .ref l ∧ y = .int k ∧ SqT K H l xs ∧ xs ≠ [] ∧ 0 ≤ k ∧ k ≤ 1000 ∧ xs.length ≤ 1000 ∧ (k = 1 → Q (.ref l) H) ∧ (k ≠ 1 → ∀ p, H p = none → Q (.ref p) (upd H p (.tup (List.replicate k.toNat xs).flatten)))
theorem op_repA {X : Cx} : OpR X (binaryOp .Mult) (rRepA X.K) := by
  intro pins s σ H x y v u Q I rx ry h
  obtain ⟨l, k, xs, rfl, rfl, hT, hne, h1, h2, hz, q1, q2⟩ := h
  by_cases k2 : 2 ≤ k
  · exact op_repT pins s σ H _ _ v u Q I rx ry ⟨l, k, xs, rfl, rfl, hT, hne, k2, h2, hz, q2 (by omega)⟩
  cases rx
  obtain ⟨t, rfl⟩ := ry
  obtain ⟨its, r, ⟨⟨cls, dd, data, sl⟩, ho, hc, n, hd⟩, hs⟩ := I.tuple hT
  simp only at hc hd
  subst hc hd
  have hle : its.length = xs.length := r.length.symm
  have hi : its.toArray.isEmpty = false := by
    cases its with
    | nil => exact absurd (List.eq_nil_of_length_eq_zero hle.symm) hne
    | cons a b => rfl
  by_cases k1 : k = 1
  · subst k1
    exact wpAny_binaryOp_repeat_ref (T := "tuple") (U := "int") (by decide) ⟨_, ho, rfl⟩ (fun s' => typeIs_int s' 1 t) noFill_tuple_mul F.fills_int_mul F.slot_int_rmul repeat_tuple F.slot_int_index.lookup
      (call_meets F.slot_int_rmul (typeIs_int s 1 t) F.entry_int_rmul (F.args_int_rmul_2 _ _) (int_rmul_tuple 1 t l its.toArray n dd sl)
        ⟨ho, rfl, ⟨_, ho, rfl⟩, call_meets F.slot_tuple_mul ⟨_, ho, rfl⟩ F.entry_tuple_mul (F.args_tuple_mul_2 _ _) (tmOne l its.toArray n dd sl t) ⟨ho, .ref l, H, I, rfl, q1 rfl⟩⟩)
  · obtain rfl : k = 0 := by omega
    refine wpAny_binaryOp_repeat_ref (T := "tuple") (U := "int") (by decide) ⟨_, ho, rfl⟩ (fun s' => typeIs_int s' 0 t) noFill_tuple_mul F.fills_int_mul F.slot_int_rmul repeat_tuple F.slot_int_index.lookup
      (call_meets F.slot_int_rmul (typeIs_int s 0 t) F.entry_int_rmul (F.args_int_rmul_2 _ _) (int_rmul_tuple 0 t l its.toArray n dd sl)
        ⟨ho, rfl, ⟨_, ho, rfl⟩, call_meets F.slot_tuple_mul ⟨_, ho, rfl⟩ F.entry_tuple_mul (F.args_tuple_mul_2 _ _) (tmNone l its.toArray n dd sl t hi) ⟨ho, ?_⟩⟩)
    refine ⟨.ref s.heap.objs.size, _, I.laid (t' := s.toks) (o := .tup []) (fun b ob q => Heap.get?_push_of_some _ q) (Nat.le_refl _) ?_, rfl, q2 (by decide) _ (I.hok.fresh (Nat.le_refl _))⟩
    exact ⟨by show 0 ≤ sizeLine; exact Nat.zero_le _, _, .nil, IsTup.new _ _⟩
end Td
/-! A call with keywords in a body whose errors are caught. -/
namespace Td
open PySem PySem.Spec PyProof.Rows L2
/-- the arguments, the keywords' values, then the def's promise; its errors at the slots -/
def tCallNS (n j : Nat) (sp : Sp) (gV : List V → List V → List V) (W : L2.St → XK) (t tk : TA) : TE := fun σ H Q => t σ H fun vs H1 => tk σ H1 fun zs H2 => (vs.length = n ∧ zs.length = j) ∧ sp (gV vs zs) H2 Q (W σ)
section
variable {X : Cx} {CQ : CXT} {lev n : Nat} {fa : Addr} {fd : FuncData} {ns ks : List Str} {sp : Sp} {W : L2.St → XK} {x : Str} {at1 at2 : Pos} {e1 : Expr} {rest : List Expr} {kws : List Keyword} {t tk : TA} {g : List Value → List Value → List Value} {gV : List V → List V → List V}
theorem pe_callNS (def_ : FnOk X.prog X.w X.K X.mg X.base CQ lev fa fd ns sp) (room : Room lev X.A) (glob : Gl X x) (here : X.mg x = some (.ref fa)) (kept : PySem.W.keepIn X.K (.ref fa) = true) (bind : KBn X.K fd ns n ks g gV) (pass : ∀ σ, PassesAt CQ X σ (W σ))
    (args : PA X (e1 :: rest) t) (keys : PK X kws tk) (named : (backToKw at2 (keywordEach kws X.env)).all (·.1.isSome) = true := by rfl) (names : (backToKw at2 (keywordEach kws X.env)).filterMap (·.1) = ks := by rfl)
    (dbg : (x == ("__debug__" : Str)) = false := by decide) (first : starEach (e1 :: rest) X.env = (false, eval e1 X.env) :: starEach rest X.env := by rfl)
    (plain : ((backTo at2 (starEach (e1 :: rest) X.env)).any (·.1) || (backToKw at2 (keywordEach kws X.env)).any (·.1.isNone)) = false := by rfl) :
    PE X (.Call (.Name x at1) (e1 :: rest) kws at2) (tCallNS n ks.length sp gV W t tk) := by
  refine ⟨fun pins s σ H Q inv want => wpAny_Call_Name_kw (ld_glob inv glob here ?_ dbg)⟩
  have go1 := args.run at2 pins s σ H _ inv want
  refine PySem.W.callWith_KW (h₀ := X.base) inv.ok.mod.kin kept named (thn go1 fun us s1 got1 => ?_) plain first
  obtain ⟨vs, H1, inv1, rel1, want1⟩ := got1
  refine thn (keys.run at2 pins s1 σ H1 _ inv1 want1) fun ws s2 got2 => ?_
  obtain ⟨zs, H2, inv2, rel2, ⟨len1, len2⟩, want2⟩ := got2
  rw [names]
  have bound := bind.to s2 us ws inv2.kIn (rel1.length.symm.trans len1) (rel2.length.symm.trans len2)
  have ran := def_.run X.A X.stack s2 H2 ⟨us, ks.zip ws⟩ (g us ws) (gV vs zs) Q (W σ) room inv2.env0 bound (bind.rel rel1 rel2) want2
  refine ⟨inv2.kIn, wpAny_call (codeAny_mono ran fun out s3 got3 => ?_)⟩
  match out, got3 with
  | .error er, got3 => exact pass σ pins H2 s2 er s3 inv2 got3
  | .ok (.ret u), got3 => exact inv2.after got3
  | .ok .next, got3 => exact got3.elim
  | .ok .brk, got3 => exact got3.elim
  | .ok .cont, got3 => exact got3.elim
end
end Td
/-! The head's look for a program with a method that opens with super().__init__(). -/
namespace Td
open PySem PySem.Spec PyProof.Rows L2
def frU (n : Nat) (g : Addr → Option Obj) : PySem.W.Frag := He.frT g (cStatics :: He.asD g n)
abbrev FnC : Type := Option (Str × Str × Arguments × FuncBody × Scope × Addr × List Str × Addr)
/-- a function's text, its closure by names alone -/
def fnC (K : PySem.W.Frag) (p : Str × Option Str) : FnC := match K.lookup (He.fAd K p) with
  | some ⟨_, _, .func fd, _⟩ => some (fd.name, fd.qualname, fd.params, fd.body, fd.scope, fd.globals, fd.closure.map (·.1), fd.builtins)
  | _ => none
structure SupD where
  cls : Str
  oth : Str
  qual : Str
  file : Str
  params : Arguments
  body : List Stmt
  scope : Scope
def SupD.at_ (d : SupD) : Str × Option Str := (d.cls, some "__init__")
def SupD.val (d : SupD) : FnC := some ("__init__", d.qual, d.params, .stmts d.body, d.scope, mainGlobals, ["__class__"], builtinsNs)
def cellB (K : PySem.W.Frag) (d : SupD) (l : List (Str × Addr)) : Bool := match l with
  | [q] => (match K.lookup q.2 with
    | some ⟨_, _, .cell (some (.ref D)), _⟩ => decide (D = He.ga K d.cls)
    | _ => false)
  | _ => false
def noneB (v : Value) : Bool := match v with
  | .none => true
  | _ => false
def strB (x : Str) (v : Option Value) : Bool := match v with
  | some (.str f _) => x == f
  | _ => false
def fileB (K : PySem.W.Frag) (d : SupD) (v : Value) : Bool := match v with
  | .ref cda => (match K.lookup cda with
    | some ⟨_, _, .fields vs, _⟩ => strB d.file (vs[2]?)
    | _ => false)
  | _ => false
theorem cellB_ok {K : PySem.W.Frag} {d : SupD} {l : List (Str × Addr)} (h : cellB K d l = true) : ∃ x cc c1 c2 c4, l = [(x, cc)] ∧ K.lookup cc = some ⟨c1, c2, .cell (some (.ref (He.ga K d.cls))), c4⟩ := by
  unfold cellB at h
  split at h
  · rename_i q
    split at h
    · rename_i c1 c2 D c4 e
      exact ⟨q.1, q.2, c1, c2, c4, rfl, by rw [e, of_decide_eq_true h]⟩
    · cases h
  · cases h
theorem noneB_ok {v : Value} (h : noneB v = true) : v = .none := by
  cases v with
  | none => rfl
  | _ => cases h
theorem strB_ok {x : Str} {v : Option Value} (h : strB x v = true) : ∃ f t, v = some (.str f t) ∧ (x == f) = true := by
  unfold strB at h
  split at h
  · rename_i f t
    exact ⟨f, t, rfl, h⟩
  · cases h
theorem fileB_ok {K : PySem.W.Frag} {d : SupD} {v : Value} (h : fileB K d v = true) : ∃ cda f1 f2 vs f4 f t, v = .ref cda ∧ K.lookup cda = some ⟨f1, f2, .fields vs, f4⟩ ∧ vs[2]? = some (.str f t) ∧ (d.file == f) = true := by
  unfold fileB at h
  split at h
  · rename_i cda
    split at h
    · rename_i f1 f2 vs f4 e
      obtain ⟨f, t, h1, h2⟩ := strB_ok h
      exact ⟨cda, f1, f2, vs, f4, f, t, rfl, e, h1, h2⟩
    · cases h
  · cases h
def supFn (K : PySem.W.Frag) (d : SupD) : Bool := match K.lookup (He.fAd K d.at_) with
  | some ⟨_, _, .func fd, _⟩ => cellB K d fd.closure && (noneB fd.defaults && (fileB K d fd.code && PySem.W.codeIn K fd.code d.qual))
  | _ => false
def supB (K : PySem.W.Frag) (d : SupD) : Bool := supFn K d && ((PySem.W.clsIn K (He.ga K d.cls)).isSome && (decide (PySem.W.mroIn K (He.ga K d.cls) (.ref (He.ga K d.cls)) = some true) && (He.eqO (PySem.W.ks_superIn K (He.ga K d.cls) (He.ga K d.cls) "__init__") (some (some (.ref (He.fAd K (d.oth, some "__init__"))))) &&
  (decide (PySem.W.typeIn K (.ref (He.fAd K (d.oth, some "__init__"))) = some (.type "function")) && (PySem.W.fnIn K (He.fAd K (d.oth, some "__init__")) && (He.eqO (PySem.W.nsIn K cStatics "thirdparty.any") (some none) && (He.eqO (PySem.W.nsIn K mainGlobals "super") (some none) && PySem.W.keepIn K (.ref (He.fAd K d.at_)))))))))
theorem sup_of {P : Program} {K : PySem.W.Frag} {d : SupD} {st : Stmt} (hp : d.params = defArgs st) (hb : d.body = defBody st) (hs : d.scope = defScope st) (hf : P.main.file = d.file) (e : fnC K d.at_ = d.val) (c : supB K d = true) :
    ∃ fd, Sup P K d.qual st (He.fAd K d.at_) (He.ga K d.cls) (He.fAd K (d.oth, some "__init__")) fd := by
  obtain ⟨c1, c⟩ := He.ba c
  obtain ⟨c2, c⟩ := He.ba c
  obtain ⟨c3, c⟩ := He.ba c
  obtain ⟨c4, c⟩ := He.ba c
  obtain ⟨c5, c⟩ := He.ba c
  obtain ⟨c6, c⟩ := He.ba c
  obtain ⟨c7, c⟩ := He.ba c
  obtain ⟨c8, c9⟩ := He.ba c
  unfold supFn at c1
  unfold fnC at e
  cases q : K.lookup (He.fAd K d.at_) with
  | none => rw [q] at e; cases e
  | some o =>
    obtain ⟨oc, od, dt, osl⟩ := o
    rw [q] at e c1
    cases dt with
    | func fd =>
      obtain ⟨n1, n2, n3, n4, n5, n6, n7, n8, n9, n10, n11, n12, n13, n14, n15⟩ := fd
      have e2 : (some (n1, n2, n3, n4, n5, n6, n7.map (·.1), n15) : FnC) = d.val := e
      unfold SupD.val at e2
      simp only [Option.some.injEq, Prod.mk.injEq] at e2
      obtain ⟨h1, h2, h3, h4, h5, h6, h7, h8⟩ := e2
      obtain ⟨d1, d2⟩ := He.ba c1
      obtain ⟨d3, d4⟩ := He.ba d2
      obtain ⟨d5, d6⟩ := He.ba d4
      obtain ⟨x1, cc, k1, k2, k4, hl, hcc⟩ := cellB_ok d1
      obtain ⟨cda, f1, f2, vs, f4, f, tf, hcode, hcda, hv, hfile⟩ := fileB_ok d5
      have hd := noneB_ok d3
      dsimp only at hl hcode hd d6
      subst hl
      have hx : x1 = "__class__" := by simpa using h7
      subst hx h1 h2 h3 h4 h5 h6 h8 hcode hd
      obtain ⟨cd, hcd⟩ := Option.isSome_iff_exists.mp c2
      refine ⟨_, ⟨oc, od, osl, n9, n10, n11, n12, n14, cc, cda, f1, f2, vs, f4, f, tf, k1, k2, k4, rfl, ?_, d6, hcda, hv, by rw [hf]; exact hfile, hcc⟩, ⟨cd, hcd⟩, of_decide_eq_true c3, He.eqO_ok c4, of_decide_eq_true c5, c6, He.eqO_ok c7, He.eqO_ok c8, c9⟩
      rw [← hp, ← hb, ← hs]
      exact q
    | _ => cases e
/-! ### the Hook -/
abbrev AlU : Type := He.AlT × (Bool × List FnC)
def obsU (n : Nat) (fa : List He.Fa) (fn : List He.DefD) (ts : List He.Tab) (us : List SupD) (ex : PySem.W.Frag → Bool) (g : Addr → Option Obj) : AlU := (He.obsT fa fn ts (frU n g), (ex (frU n g) && us.all (supB (frU n g)), us.map fun d => fnC (frU n g) d.at_))
def valU (fn : List He.DefD) (ts : List He.Tab) (us : List SupD) (w : World) : AlU := (He.valT fn ts w, (true, us.map SupD.val))
structure SaysU (fa : List He.Fa) (fn : List He.DefD) (ts : List He.Tab) (us : List SupD) (ex : PySem.W.Frag → Bool) (w : World) (K : PySem.W.Frag) : Prop where
  t : He.SaysT fa fn ts w K
  more : ex K = true
  us : ∀ d ∈ us, supB K d = true ∧ fnC K d.at_ = d.val
theorem saysU_of {n : Nat} {fa : List He.Fa} {fn : List He.DefD} {ts : List He.Tab} {us : List SupD} {ex : PySem.W.Frag → Bool} {w : World} {g : Addr → Option Obj} (e : obsU n fa fn ts us ex g = valU fn ts us w) : SaysU fa fn ts us ex w (frU n g) := by
  have e1 : He.obsT fa fn ts (frU n g) = He.valT fn ts w := congrArg (fun z : AlU => z.1) e
  have e2 : (ex (frU n g) && us.all (supB (frU n g))) = true := congrArg (fun z : AlU => z.2.1) e
  have e3 : (us.map fun d => fnC (frU n g) d.at_) = us.map SupD.val := congrArg (fun z : AlU => z.2.2) e
  obtain ⟨a, b⟩ := He.ba e2
  refine ⟨e1, a, fun d hd => ⟨List.all_eq_true.mp b d hd, ?_⟩⟩
  exact List.map_inj_left.mp e3 d hd
def hookU (n : Nat) (fa : List He.Fa) (fn : List He.DefD) (ts : List He.Tab) (us : List SupD) (ex : PySem.W.Frag → Bool) : PySem.W.Hook where
  α := AlU
  obs := fun s => obsU n fa fn ts us ex s.heap.get?
  val := fun w => valU fn ts us w
  says := fun w h => ∃ K : PySem.W.Frag, K.In h ∧ SaysU fa fn ts us ex w K
  of := fun _ _ e => ⟨_, He.frT_in, saysU_of e⟩
  keeps := fun _ _ _ ⟨K, hK, c⟩ k => ⟨K, PySem.W.Frag.In.keeps hK k, c⟩
theorem obsU_eq {n : Nat} {fa : List He.Fa} {fn : List He.DefD} {ts : List He.Tab} {us : List SupD} {ex : PySem.W.Frag → Bool} {g : Addr → Option Obj} {s : Shared} (h : ∀ a, g a = s.heap.get? a) : obsU n fa fn ts us ex g = (hookU n fa fn ts us ex).obs s := by
  have e : g = s.heap.get? := funext h
  rw [e] <;> rfl
end Td
/-! The head's look over a list of places that is written out. -/
namespace Td
open PySem PySem.Spec PyProof.Rows L2
def obsV (as : List Addr) (fa : List He.Fa) (fn : List He.DefD) (ts : List He.Tab) (us : List SupD) (ex : PySem.W.Frag → Bool) (g : Addr → Option Obj) : AlU := (He.obsT fa fn ts (He.frT g as), (ex (He.frT g as) && us.all (supB (He.frT g as)), us.map fun d => fnC (He.frT g as) d.at_))
theorem saysV_of {as : List Addr} {fa : List He.Fa} {fn : List He.DefD} {ts : List He.Tab} {us : List SupD} {ex : PySem.W.Frag → Bool} {w : World} {g : Addr → Option Obj} (e : obsV as fa fn ts us ex g = valU fn ts us w) : SaysU fa fn ts us ex w (He.frT g as) := by
  have e1 : He.obsT fa fn ts (He.frT g as) = He.valT fn ts w := congrArg (fun z : AlU => z.1) e
  have e2 : (ex (He.frT g as) && us.all (supB (He.frT g as))) = true := congrArg (fun z : AlU => z.2.1) e
  have e3 : (us.map fun d => fnC (He.frT g as) d.at_) = us.map SupD.val := congrArg (fun z : AlU => z.2.2) e
  obtain ⟨a, b⟩ := He.ba e2
  exact ⟨e1, a, fun d hd => ⟨List.all_eq_true.mp b d hd, List.map_inj_left.mp e3 d hd⟩⟩
def hookV (as : List Addr) (fa : List He.Fa) (fn : List He.DefD) (ts : List He.Tab) (us : List SupD) (ex : PySem.W.Frag → Bool) : PySem.W.Hook where
  α := AlU
  obs := fun s => obsV as fa fn ts us ex s.heap.get?
  val := fun w => valU fn ts us w
  says := fun w h => ∃ K : PySem.W.Frag, K.In h ∧ SaysU fa fn ts us ex w K
  of := fun _ _ e => ⟨_, He.frT_in, saysV_of e⟩
  keeps := fun _ _ _ ⟨K, hK, c⟩ k => ⟨K, PySem.W.Frag.In.keeps hK k, c⟩
theorem obsV_eq {as : List Addr} {fa : List He.Fa} {fn : List He.DefD} {ts : List He.Tab} {us : List SupD} {ex : PySem.W.Frag → Bool} {g : Addr → Option Obj} {s : Shared} (h : ∀ a, g a = s.heap.get? a) : obsV as fa fn ts us ex g = (hookV as fa fn ts us ex).obs s := by
  have e : g = s.heap.get? := funext h
  rw [e] <;> rfl
end Td
/-! The head's look for own exceptions of one field. -/
namespace Td
open PySem PySem.Spec PyProof.Rows L2
def mroVE (C : Addr) : List Value → Bool
  | .ref D :: bm => decide (D = C) && PySem.HandSPX.refsVE bm
  | _ => false
theorem mroVE_ok {C : Addr} {l : List Value} (h : mroVE C l = true) : ∃ bm, l = .ref C :: bm ∧ PySem.HandSPX.refsVE bm = true := by
  unfold mroVE at h
  split at h
  · rename_i D bm
    obtain ⟨h1, h2⟩ := He.ba h
    exact ⟨bm, by rw [of_decide_eq_true h1], h2⟩
  · cases h
def newVE : List (Option Value) → Bool
  | [_, _, _, _, some (.builtin n), _] => n == "ValueError.__new__"
  | _ => false
theorem newVE_ok {l : List (Option Value)} (h : newVE l = true) : ∃ k0 k1 k2 k3 k5, l = [k0, k1, k2, k3, some (.builtin "ValueError.__new__"), k5] := by
  unfold newVE at h
  split at h
  · rename_i k0 k1 k2 k3 n k5
    exact ⟨k0, k1, k2, k3, k5, by rw [of_decide_eq_true h]⟩
  · cases h
def oexCls (K : PySem.W.Frag) (C : Addr) : Bool := match K.lookup C with
  | some ⟨.type "type", _, .cls cd, sl⟩ => cd.hasDict && (!cd.hasDel && (mroVE C cd.mro && newVE sl.toList))
  | _ => false
def oexB (K : PySem.W.Frag) (C : Addr) : Bool := oexCls K C && (He.eqO (PySem.W.findIn K (.ref C) "__setattr__") (some (some (.builtin "object.__setattr__"))) && (decide (PySem.W.subIn K (.ref C) (.type "BaseException") = some true) && (decide (PySem.W.typeIn K (.ref C) = some (.type "type")) && PySem.W.keepIn K (.ref C))))
theorem oexB_ok {K : PySem.W.Frag} {C : Addr} (h : oexB K C = true) : OexC K C := by
  obtain ⟨c1, h⟩ := He.ba h
  obtain ⟨c2, h⟩ := He.ba h
  obtain ⟨c3, h⟩ := He.ba h
  obtain ⟨c4, c5⟩ := He.ba h
  refine ⟨?_, He.eqO_ok c2, of_decide_eq_true c3, of_decide_eq_true c4, c5⟩
  unfold oexCls at c1
  split at c1
  · rename_i dd cd sl e
    obtain ⟨d1, c1⟩ := He.ba c1
    obtain ⟨d2, c1⟩ := He.ba c1
    obtain ⟨d3, d4⟩ := He.ba c1
    obtain ⟨bm, em, hm⟩ := mroVE_ok d3
    obtain ⟨k0, k1, k2, k3, k5, es⟩ := newVE_ok d4
    obtain ⟨nm, bs, mro, ns, qn, hd, sn, sb, ab, col, del⟩ := cd
    obtain ⟨sl⟩ := sl
    dsimp only at d1 d2 em es
    subst em es d1
    have d2' : del = false := by simpa using d2
    subst d2'
    exact ⟨nm, qn, ns, bs, bm, sn, sb, ab, col, dd, k0, k1, k2, k3, k5, e, hm⟩
  · cases c1
/-- an own exception class, its __init__ and its one field -/
def excB (K : PySem.W.Frag) (x f : Str) : Bool := oexB K (He.ga K x) && (He.eqO (PySem.W.findIn K (.ref (He.ga K x)) "__init__") (some (some (.ref (He.fAd K (x, some "__init__"))))) && (decide (PySem.W.typeIn K (.ref (He.fAd K (x, some "__init__"))) = some (.type "function")) && (He.eqO (PySem.W.findIn K (.ref (He.ga K x)) f) (some none) && xfB K (He.ga K x))))
theorem excB_ok {K : PySem.W.Frag} {x f : Str} (h : excB K x f = true) : OexC K (He.ga K x) ∧ PySem.W.findIn K (.ref (He.ga K x)) "__init__" = some (some (.ref (He.fAd K (x, some "__init__")))) ∧ PySem.W.typeIn K (.ref (He.fAd K (x, some "__init__"))) = some (.type "function") ∧
    PySem.W.findIn K (.ref (He.ga K x)) f = some none ∧ XfC K (He.ga K x) := by
  obtain ⟨c1, h⟩ := He.ba h
  obtain ⟨c2, h⟩ := He.ba h
  obtain ⟨c3, h⟩ := He.ba h
  obtain ⟨c4, c5⟩ := He.ba h
  exact ⟨oexB_ok c1, He.eqO_ok c2, of_decide_eq_true c3, He.eqO_ok c4, xfB_ok c5⟩
end Td
namespace K68
open PySem PySem.Spec PyProof.Rows L2 Td
def top (i : Nat) : Stmt := PySem.Challenge.pw_toldonward_k68_whole_plain_machine.main.body.getD i (.Pass ⟨0, 0, 0, 0⟩)
abbrev s_is_integer : Stmt := top 3
abbrev N_is_integer : List Str := ["value"]
theorem sc_is_integer : FnScope N_is_integer ["value"] (defScope s_is_integer) := ⟨rfl, rfl, rfl, by decide +kernel, rfl, by decide +kernel, by decide +kernel⟩
abbrev s_is_name : Stmt := top 4
abbrev N_is_name : List Str := ["value", "letter"]
theorem sc_is_name : FnScope N_is_name ["value"] (defScope s_is_name) := ⟨rfl, rfl, rfl, by decide +kernel, rfl, by decide +kernel, by decide +kernel⟩
abbrev s_are_names : Stmt := top 5
abbrev N_are_names : List Str := ["value", "least", "most", "item"]
theorem sc_are_names : FnScope N_are_names ["value", "least", "most"] (defScope s_are_names) := ⟨rfl, rfl, rfl, by decide +kernel, rfl, by decide +kernel, by decide +kernel⟩
abbrev s_are_named_pairs : Stmt := top 6
abbrev N_are_named_pairs : List Str := ["value", "most", "taken", "before", "pair"]
theorem sc_are_named_pairs : FnScope N_are_named_pairs ["value", "most", "taken"] (defScope s_are_named_pairs) := ⟨rfl, rfl, rfl, by decide +kernel, rfl, by decide +kernel, by decide +kernel⟩
abbrev s_InvalidProgram_init : Stmt := inClass (top 9) 0
abbrev N_InvalidProgram_init : List Str := ["self", "part", "path"]
theorem sc_InvalidProgram_init : FnScope N_InvalidProgram_init ["self", "part", "path"] (defScope s_InvalidProgram_init) := ⟨rfl, rfl, rfl, by decide +kernel, rfl, by decide +kernel, by decide +kernel⟩
abbrev s_InvalidStart_init : Stmt := inClass (top 10) 0
abbrev N_InvalidStart_init : List Str := ["self", "words"]
theorem sc_InvalidStart_init : FnScope N_InvalidStart_init ["self", "words"] (defScope s_InvalidStart_init) := ⟨rfl, rfl, rfl, by decide +kernel, rfl, by decide +kernel, by decide +kernel⟩
abbrev s_InvalidDeed_init : Stmt := inClass (top 11) 0
abbrev N_InvalidDeed_init : List Str := ["self", "deed"]
theorem sc_InvalidDeed_init : FnScope N_InvalidDeed_init ["self", "deed"] (defScope s_InvalidDeed_init) := ⟨rfl, rfl, rfl, by decide +kernel, rfl, by decide +kernel, by decide +kernel⟩
abbrev s_InvalidBound_init : Stmt := inClass (top 12) 0
abbrev N_InvalidBound_init : List Str := ["self", "value"]
theorem sc_InvalidBound_init : FnScope N_InvalidBound_init ["self", "value"] (defScope s_InvalidBound_init) := ⟨rfl, rfl, rfl, by decide +kernel, rfl, by decide +kernel, by decide +kernel⟩
abbrev s_UnknownCell_init : Stmt := inClass (top 13) 0
abbrev N_UnknownCell_init : List Str := ["self", "name"]
theorem sc_UnknownCell_init : FnScope N_UnknownCell_init ["self", "name"] (defScope s_UnknownCell_init) := ⟨rfl, rfl, rfl, by decide +kernel, rfl, by decide +kernel, by decide +kernel⟩
abbrev s_TooManyRuns_init : Stmt := inClass (top 14) 0
abbrev N_TooManyRuns_init : List Str := ["self", "most"]
theorem sc_TooManyRuns_init : FnScope N_TooManyRuns_init ["self", "most"] (defScope s_TooManyRuns_init) := ⟨rfl, rfl, rfl, by decide +kernel, rfl, by decide +kernel, by decide +kernel⟩
abbrev s_check_bound : Stmt := top 17
abbrev N_check_bound : List Str := ["value", "greatest"]
theorem sc_check_bound : FnScope N_check_bound ["value", "greatest"] (defScope s_check_bound) := ⟨rfl, rfl, rfl, by decide +kernel, rfl, by decide +kernel, by decide +kernel⟩
abbrev s_check_most : Stmt := top 18
abbrev N_check_most : List Str := ["value"]
theorem sc_check_most : FnScope N_check_most ["value"] (defScope s_check_most) := ⟨rfl, rfl, rfl, by decide +kernel, rfl, by decide +kernel, by decide +kernel⟩
abbrev s_Record_init : Stmt := inClass (top 20) 0
abbrev N_Record_init : List Str := ["self"]
theorem sc_Record_init : FnScope N_Record_init ["self"] (defScope s_Record_init) := ⟨rfl, rfl, rfl, by decide +kernel, rfl, by decide +kernel, by decide +kernel⟩
abbrev s_Record_parts : Stmt := inClass (top 20) 1
abbrev N_Record_parts : List Str := ["self"]
theorem sc_Record_parts : FnScope N_Record_parts ["self"] (defScope s_Record_parts) := ⟨rfl, rfl, rfl, by decide +kernel, rfl, by decide +kernel, by decide +kernel⟩
abbrev s_TrueRun_init : Stmt := inClass (top 22) 0
abbrev N_TrueRun_init : List Str := ["self", "default", "known", "__class__"]
theorem sc_TrueRun_init : NdefX.NScope N_TrueRun_init ["self", "default", "known"] ["__class__"] (defScope s_TrueRun_init) := NdefX.nscope_by (by decide +kernel)
abbrev s_TrueRun_word_in : Stmt := inClass (top 22) 1
abbrev N_TrueRun_word_in : List Str := ["self", "slot"]
theorem sc_TrueRun_word_in : FnScope N_TrueRun_word_in ["self", "slot"] (defScope s_TrueRun_word_in) := ⟨rfl, rfl, rfl, by decide +kernel, rfl, by decide +kernel, by decide +kernel⟩
abbrev s_do_read : Stmt := top 23
abbrev N_do_read : List Str := ["run", "row", "word"]
theorem sc_do_read : FnScope N_do_read ["run", "row"] (defScope s_do_read) := ⟨rfl, rfl, rfl, by decide +kernel, rfl, by decide +kernel, by decide +kernel⟩
abbrev s_do_peek : Stmt := top 24
abbrev N_do_peek : List Str := ["run", "row", "word"]
theorem sc_do_peek : FnScope N_do_peek ["run", "row"] (defScope s_do_peek) := ⟨rfl, rfl, rfl, by decide +kernel, rfl, by decide +kernel, by decide +kernel⟩
abbrev s_do_put : Stmt := top 25
abbrev N_do_put : List Str := ["run", "row"]
theorem sc_do_put : FnScope N_do_put ["run", "row"] (defScope s_do_put) := ⟨rfl, rfl, rfl, by decide +kernel, rfl, by decide +kernel, by decide +kernel⟩
abbrev s_do_write : Stmt := top 26
abbrev N_do_write : List Str := ["run", "row"]
theorem sc_do_write : FnScope N_do_write ["run", "row"] (defScope s_do_write) := ⟨rfl, rfl, rfl, by decide +kernel, rfl, by decide +kernel, by decide +kernel⟩
abbrev s_do_say : Stmt := top 27
abbrev N_do_say : List Str := ["run", "row"]
theorem sc_do_say : FnScope N_do_say ["run", "row"] (defScope s_do_say) := ⟨rfl, rfl, rfl, by decide +kernel, rfl, by decide +kernel, by decide +kernel⟩
abbrev s_do_rows : Stmt := top 29
abbrev N_do_rows : List Str := ["run", "rows", "row", "chosen", "action"]
theorem sc_do_rows : FnScope N_do_rows ["run", "rows"] (defScope s_do_rows) := ⟨rfl, rfl, rfl, by decide +kernel, rfl, by decide +kernel, by decide +kernel⟩
abbrev s_run_truly : Stmt := top 30
abbrev N_run_truly : List Str := ["program", "known", "rows", "run"]
theorem sc_run_truly : FnScope N_run_truly ["program", "known", "rows"] (defScope s_run_truly) := ⟨rfl, rfl, rfl, by decide +kernel, rfl, by decide +kernel, by decide +kernel⟩
abbrev s_is_start : Stmt := top 31
abbrev N_is_start : List Str := ["program", "words", "word"]
theorem sc_is_start : FnScope N_is_start ["program", "words"] (defScope s_is_start) := ⟨rfl, rfl, rfl, by decide +kernel, rfl, by decide +kernel, by decide +kernel⟩
abbrev s_check_start : Stmt := top 32
abbrev N_check_start : List Str := ["program", "words"]
theorem sc_check_start : FnScope N_check_start ["program", "words"] (defScope s_check_start) := ⟨rfl, rfl, rfl, by decide +kernel, rfl, by decide +kernel, by decide +kernel⟩
abbrev s_known_words : Stmt := top 33
abbrev N_known_words : List Str := ["program", "words", "known", "name", "rows"]
theorem sc_known_words : FnScope N_known_words ["program", "words"] (defScope s_known_words) := ⟨rfl, rfl, rfl, by decide +kernel, rfl, by decide +kernel, by decide +kernel⟩
abbrev s_is_deed : Stmt := top 35
abbrev N_is_deed : List Str := ["program", "value"]
theorem sc_is_deed : FnScope N_is_deed ["program", "value"] (defScope s_is_deed) := ⟨rfl, rfl, rfl, by decide +kernel, rfl, by decide +kernel, by decide +kernel⟩
abbrev s_is_write : Stmt := top 36
abbrev N_is_write : List Str := ["program", "value"]
theorem sc_is_write : FnScope N_is_write ["program", "value"] (defScope s_is_write) := ⟨rfl, rfl, rfl, by decide +kernel, rfl, by decide +kernel, by decide +kernel⟩
abbrev s_is_batch : Stmt := top 37
abbrev N_is_batch : List Str := ["program", "value", "before", "write"]
theorem sc_is_batch : FnScope N_is_batch ["program", "value"] (defScope s_is_batch) := ⟨rfl, rfl, rfl, by decide +kernel, rfl, by decide +kernel, by decide +kernel⟩
abbrev s_PlainMachine_init : Stmt := inClass (top 39) 0
abbrev N_PlainMachine_init : List Str := ["self", "program", "words", "notes", "most"]
theorem sc_PlainMachine_init : FnScope N_PlainMachine_init ["self", "program", "words", "notes", "most"] (defScope s_PlainMachine_init) := ⟨rfl, rfl, rfl, by decide +kernel, rfl, by decide +kernel, by decide +kernel⟩
abbrev s_PlainMachine_words_now : Stmt := inClass (top 39) 1
abbrev N_PlainMachine_words_now : List Str := ["self", "source"]
theorem sc_PlainMachine_words_now : FnScope N_PlainMachine_words_now ["self"] (defScope s_PlainMachine_words_now) := ⟨rfl, rfl, rfl, by decide +kernel, rfl, by decide +kernel, by decide +kernel⟩
abbrev s_PlainMachine_true_now : Stmt := inClass (top 39) 2
abbrev N_PlainMachine_true_now : List Str := ["self"]
theorem sc_PlainMachine_true_now : FnScope N_PlainMachine_true_now ["self"] (defScope s_PlainMachine_true_now) := ⟨rfl, rfl, rfl, by decide +kernel, rfl, by decide +kernel, by decide +kernel⟩
abbrev s_PlainMachine_at_rest : Stmt := inClass (top 39) 3
abbrev N_PlainMachine_at_rest : List Str := ["self"]
theorem sc_PlainMachine_at_rest : FnScope N_PlainMachine_at_rest ["self"] (defScope s_PlainMachine_at_rest) := ⟨rfl, rfl, rfl, by decide +kernel, rfl, by decide +kernel, by decide +kernel⟩
abbrev s_PlainMachine_write_together : Stmt := inClass (top 39) 4
abbrev N_PlainMachine_write_together : List Str := ["self", "writes", "counting", "source", "word"]
theorem sc_PlainMachine_write_together : FnScope N_PlainMachine_write_together ["self", "writes"] (defScope s_PlainMachine_write_together) := ⟨rfl, rfl, rfl, by decide +kernel, rfl, by decide +kernel, by decide +kernel⟩
abbrev s_PlainMachine_look_at_effects : Stmt := inClass (top 39) 5
abbrev N_PlainMachine_look_at_effects : List Str := ["self", "known", "place", "name", "rows", "notes", "parts", "cell", "word"]
theorem sc_PlainMachine_look_at_effects : FnScope N_PlainMachine_look_at_effects ["self"] (defScope s_PlainMachine_look_at_effects) := ⟨rfl, rfl, rfl, by decide +kernel, rfl, by decide +kernel, by decide +kernel⟩
abbrev s_PlainMachine_work_off_waiting : Stmt := inClass (top 39) 6
abbrev N_PlainMachine_work_off_waiting : List Str := ["self"]
theorem sc_PlainMachine_work_off_waiting : FnScope N_PlainMachine_work_off_waiting ["self"] (defScope s_PlainMachine_work_off_waiting) := ⟨rfl, rfl, rfl, by decide +kernel, rfl, by decide +kernel, by decide +kernel⟩
abbrev s_plain_begin : Stmt := top 40
abbrev N_plain_begin : List Str := ["program", "words", "most", "machine", "_"]
theorem sc_plain_begin : FnScope N_plain_begin ["program", "words", "most"] (defScope s_plain_begin) := ⟨rfl, rfl, rfl, by decide +kernel, rfl, by decide +kernel, by decide +kernel⟩
abbrev s_plain_step : Stmt := top 41
abbrev N_plain_step : List Str := ["program", "standing", "deed", "most", "words", "notes", "machine"]
theorem sc_plain_step : FnScope N_plain_step ["program", "standing", "deed", "most"] (defScope s_plain_step) := ⟨rfl, rfl, rfl, by decide +kernel, rfl, by decide +kernel, by decide +kernel⟩
abbrev s_Scope_init : Stmt := inClass (top 45) 0
abbrev N_Scope_init : List Str := ["self", "kind", "words", "sources", "readable"]
theorem sc_Scope_init : FnScope N_Scope_init ["self", "kind", "words", "sources", "readable"] (defScope s_Scope_init) := ⟨rfl, rfl, rfl, by decide +kernel, rfl, by decide +kernel, by decide +kernel⟩
abbrev s_is_read_row : Stmt := top 46
abbrev N_is_read_row : List Str := ["row", "scope"]
theorem sc_is_read_row : FnScope N_is_read_row ["row", "scope"] (defScope s_is_read_row) := ⟨rfl, rfl, rfl, by decide +kernel, rfl, by decide +kernel, by decide +kernel⟩
abbrev s_is_put_row : Stmt := top 47
abbrev N_is_put_row : List Str := ["row", "scope"]
theorem sc_is_put_row : FnScope N_is_put_row ["row", "scope"] (defScope s_is_put_row) := ⟨rfl, rfl, rfl, by decide +kernel, rfl, by decide +kernel, by decide +kernel⟩
abbrev s_is_if_row : Stmt := top 48
abbrev N_is_if_row : List Str := ["row", "scope"]
theorem sc_is_if_row : FnScope N_is_if_row ["row", "scope"] (defScope s_is_if_row) := ⟨rfl, rfl, rfl, by decide +kernel, rfl, by decide +kernel, by decide +kernel⟩
abbrev s_is_slot_row : Stmt := top 49
abbrev N_is_slot_row : List Str := ["row", "scope"]
theorem sc_is_slot_row : FnScope N_is_slot_row ["row", "scope"] (defScope s_is_slot_row) := ⟨rfl, rfl, rfl, by decide +kernel, rfl, by decide +kernel, by decide +kernel⟩
abbrev s_is_write_row : Stmt := top 50
abbrev N_is_write_row : List Str := ["row", "scope"]
theorem sc_is_write_row : FnScope N_is_write_row ["row", "scope"] (defScope s_is_write_row) := ⟨rfl, rfl, rfl, by decide +kernel, rfl, by decide +kernel, by decide +kernel⟩
abbrev s_check_of : Stmt := top 53
abbrev N_check_of : List Str := ["kind", "form"]
theorem sc_check_of : FnScope N_check_of ["kind", "form"] (defScope s_check_of) := ⟨rfl, rfl, rfl, by decide +kernel, rfl, by decide +kernel, by decide +kernel⟩
abbrev s_is_valid_row : Stmt := top 54
abbrev N_is_valid_row : List Str := ["row", "scope", "depth", "fits"]
theorem sc_is_valid_row : FnScope N_is_valid_row ["row", "scope", "depth"] (defScope s_is_valid_row) := ⟨rfl, rfl, rfl, by decide +kernel, rfl, by decide +kernel, by decide +kernel⟩
abbrev s_first_wrong_path : Stmt := top 55
abbrev N_first_wrong_path : List Str := ["rows", "scope", "base", "depth", "place", "row", "path", "branch", "wrong"]
theorem sc_first_wrong_path : FnScope N_first_wrong_path ["rows", "scope", "base", "depth"] (defScope s_first_wrong_path) := ⟨rfl, rfl, rfl, by decide +kernel, rfl, by decide +kernel, by decide +kernel⟩
abbrev s_paths_of_rows : Stmt := top 56
abbrev N_paths_of_rows : List Str := ["rows", "base", "paths", "place", "row", "path", "branch"]
theorem sc_paths_of_rows : FnScope N_paths_of_rows ["rows", "base"] (defScope s_paths_of_rows) := ⟨rfl, rfl, rfl, by decide +kernel, rfl, by decide +kernel, by decide +kernel⟩
abbrev s_Program_init : Stmt := inClass (top 64) 0
abbrev N_Program_init : List Str := ["self", "words", "sources", "derived", "effects"]
theorem sc_Program_init : FnScope N_Program_init ["self", "words", "sources", "derived", "effects"] (defScope s_Program_init) := ⟨rfl, rfl, rfl, by decide +kernel, rfl, by decide +kernel, by decide +kernel⟩
abbrev s_Program_eq : Stmt := inClass (top 64) 1
abbrev N_Program_eq : List Str := ["self", "other"]
theorem sc_Program_eq : FnScope N_Program_eq ["self", "other"] (defScope s_Program_eq) := ⟨rfl, rfl, rfl, by decide +kernel, rfl, by decide +kernel, by decide +kernel⟩
abbrev s_Program_cells : Stmt := inClass (top 64) 2
abbrev N_Program_cells : List Str := ["self"]
theorem sc_Program_cells : FnScope N_Program_cells ["self"] (defScope s_Program_cells) := ⟨rfl, rfl, rfl, by decide +kernel, rfl, by decide +kernel, by decide +kernel⟩
abbrev s_Program_derived_names : Stmt := inClass (top 64) 3
abbrev N_Program_derived_names : List Str := ["self"]
theorem sc_Program_derived_names : FnScope N_Program_derived_names ["self"] (defScope s_Program_derived_names) := ⟨rfl, rfl, rfl, by decide +kernel, rfl, by decide +kernel, by decide +kernel⟩
abbrev s_Program_effect_names : Stmt := inClass (top 64) 4
abbrev N_Program_effect_names : List Str := ["self"]
theorem sc_Program_effect_names : FnScope N_Program_effect_names ["self"] (defScope s_Program_effect_names) := ⟨rfl, rfl, rfl, by decide +kernel, rfl, by decide +kernel, by decide +kernel⟩
abbrev s_Program_body : Stmt := inClass (top 64) 5
abbrev N_Program_body : List Str := ["self", "name", "own_name", "rows"]
theorem sc_Program_body : FnScope N_Program_body ["self", "name"] (defScope s_Program_body) := ⟨rfl, rfl, rfl, by decide +kernel, rfl, by decide +kernel, by decide +kernel⟩
abbrev s_Program_row_paths : Stmt := inClass (top 64) 6
abbrev N_Program_row_paths : List Str := ["self"]
theorem sc_Program_row_paths : FnScope N_Program_row_paths ["self"] (defScope s_Program_row_paths) := ⟨rfl, rfl, rfl, by decide +kernel, rfl, by decide +kernel, by decide +kernel⟩
abbrev s_Program_row_at : Stmt := inClass (top 64) 7
abbrev N_Program_row_at : List Str := ["self", "path"]
theorem sc_Program_row_at : FnScope N_Program_row_at ["self", "path"] (defScope s_Program_row_at) := ⟨rfl, rfl, rfl, by decide +kernel, rfl, by decide +kernel, by decide +kernel⟩
abbrev s_Program_with_row : Stmt := inClass (top 64) 8
abbrev N_Program_with_row : List Str := ["self", "path", "row"]
theorem sc_Program_with_row : FnScope N_Program_with_row ["self", "path", "row"] (defScope s_Program_with_row) := ⟨rfl, rfl, rfl, by decide +kernel, rfl, by decide +kernel, by decide +kernel⟩
abbrev s_names_of : Stmt := top 65
abbrev N_names_of : List Str := ["pairs", "name", "_"]
theorem sc_names_of : FnScope N_names_of ["pairs"] (defScope s_names_of) := ⟨rfl, rfl, rfl, by decide +kernel, rfl, by decide +kernel, by decide +kernel⟩
abbrev s_check_parts : Stmt := top 66
abbrev N_check_parts : List Str := ["words", "sources", "derived", "effects"]
theorem sc_check_parts : FnScope N_check_parts ["words", "sources", "derived", "effects"] (defScope s_check_parts) := ⟨rfl, rfl, rfl, by decide +kernel, rfl, by decide +kernel, by decide +kernel⟩
abbrev s_check_bodies : Stmt := top 67
abbrev N_check_bodies : List Str := ["words", "sources", "derived", "effects", "readable", "index", "name", "rows", "_"]
theorem sc_check_bodies : FnScope N_check_bodies ["words", "sources", "derived", "effects"] (defScope s_check_bodies) := ⟨rfl, rfl, rfl, by decide +kernel, rfl, by decide +kernel, by decide +kernel⟩
abbrev s_check_body : Stmt := top 68
abbrev N_check_body : List Str := ["rows", "scope", "index", "base", "wrong"]
theorem sc_check_body : FnScope N_check_body ["rows", "scope", "index"] (defScope s_check_body) := ⟨rfl, rfl, rfl, by decide +kernel, rfl, by decide +kernel, by decide +kernel⟩
abbrev s_law_state : Stmt := top 70
abbrev N_law_state : List Str := ["_law_script"]
theorem sc_law_state : FnScope N_law_state ["_law_script"] (defScope s_law_state) := ⟨rfl, rfl, rfl, by decide +kernel, rfl, by decide +kernel, by decide +kernel⟩
abbrev s_law_draw : Stmt := top 71
abbrev N_law_draw : List Str := ["_law_state_here", "_law_many_here", "_law_cell", "_law_digit", "_law_one", "_law_two", "_law_three"]
theorem sc_law_draw : FnScope N_law_draw ["_law_state_here", "_law_many_here"] (defScope s_law_draw) := ⟨rfl, rfl, rfl, by decide +kernel, rfl, by decide +kernel, by decide +kernel⟩
abbrev s_law_names : Stmt := top 72
abbrev N_law_names : List Str := ["_law_state_here", "_law_many_here", "_law_place", "_law_first", "_law_same_size", "_law_base", "_law_letters", "_law_names_here", "_law_k", "_law_other", "_law_size", "_law_name", "_law_at"]
theorem sc_law_names : FnScope N_law_names ["_law_state_here", "_law_many_here"] (defScope s_law_names) := ⟨rfl, rfl, rfl, by decide +kernel, rfl, by decide +kernel, by decide +kernel⟩
abbrev s_law_many : Stmt := top 73
abbrev N_law_many : List Str := ["_law_rows_here", "_law_total", "_law_row_here"]
theorem sc_law_many : FnScope N_law_many ["_law_rows_here"] (defScope s_law_many) := ⟨rfl, rfl, rfl, by decide +kernel, rfl, by decide +kernel, by decide +kernel⟩
abbrev s_law_row : Stmt := top 74
abbrev N_law_row : List Str := ["_law_state_here", "_law_shape", "_law_kind", "_law_slot", "_law_cell"]
theorem sc_law_row : FnScope N_law_row ["_law_state_here", "_law_shape"] (defScope s_law_row) := ⟨rfl, rfl, rfl, by decide +kernel, rfl, by decide +kernel, by decide +kernel⟩
abbrev s_law_rows : Stmt := top 75
abbrev N_law_rows : List Str := ["_law_state_here", "_law_shape", "_law_depth", "_law_room", "_law_rows_here", "_law_left", "_law_turn", "_law_slot", "_law_cell", "_law_word", "_law_yes", "_law_no"]
theorem sc_law_rows : FnScope N_law_rows ["_law_state_here", "_law_shape", "_law_depth", "_law_room"] (defScope s_law_rows) := ⟨rfl, rfl, rfl, by decide +kernel, rfl, by decide +kernel, by decide +kernel⟩
abbrev s_law_parts : Stmt := top 76
abbrev N_law_parts : List Str := ["_law_state_here", "_law_sizes", "_law_peeks", "_law_writes", "_law_many_words", "_law_many_sources", "_law_many_derived", "_law_many_effects", "_law_words_here", "_law_names_here", "_law_slots", "_law_sources", "_law_shape", "_law_derived", "_law_k", "_law_name", "_law_rows_here", "_law_effects"]
theorem sc_law_parts : FnScope N_law_parts ["_law_state_here", "_law_sizes", "_law_peeks", "_law_writes"] (defScope s_law_parts) := ⟨rfl, rfl, rfl, by decide +kernel, rfl, by decide +kernel, by decide +kernel⟩
abbrev s_law_program : Stmt := top 77
abbrev N_law_program : List Str := ["_law_parts_here"]
theorem sc_law_program : FnScope N_law_program ["_law_parts_here"] (defScope s_law_program) := ⟨rfl, rfl, rfl, by decide +kernel, rfl, by decide +kernel, by decide +kernel⟩
abbrev s_law_words : Stmt := top 78
abbrev N_law_words : List Str := ["_law_state_here", "_law_parts_here", "_law_source"]
theorem sc_law_words : FnScope N_law_words ["_law_state_here", "_law_parts_here"] (defScope s_law_words) := ⟨rfl, rfl, rfl, by decide +kernel, rfl, by decide +kernel, by decide +kernel⟩
abbrev s_law_wrong_words : Stmt := top 79
abbrev N_law_wrong_words : List Str := ["_law_state_here", "_law_words_here", "_law_wrong"]
theorem sc_law_wrong_words : FnScope N_law_wrong_words ["_law_state_here", "_law_words_here"] (defScope s_law_wrong_words) := ⟨rfl, rfl, rfl, by decide +kernel, rfl, by decide +kernel, by decide +kernel⟩
abbrev s_law_plain_start : Stmt := top 80
abbrev N_law_plain_start : List Str := ["_law_program_here", "_law_words_here", "_law_bound", "_law_told", "e"]
theorem sc_law_plain_start : FnScope N_law_plain_start ["_law_program_here", "_law_words_here", "_law_bound"] (defScope s_law_plain_start) := ⟨rfl, rfl, rfl, by decide +kernel, rfl, by decide +kernel, by decide +kernel⟩
abbrev s_law_effect : Stmt := top 81
abbrev N_law_effect : List Str := ["_law_parts_here", "_law_rows_here", "_law_table", "_law_slots", "_law_told", "_law_default", "_law_row_here", "_law_inside", "_law_pair"]
theorem sc_law_effect : FnScope N_law_effect ["_law_parts_here", "_law_rows_here", "_law_table", "_law_slots", "_law_told"] (defScope s_law_effect) := ⟨rfl, rfl, rfl, by decide +kernel, rfl, by decide +kernel, by decide +kernel⟩
abbrev s_law_give : Stmt := top 82
abbrev N_law_give : List Str := ["_law_parts_here", "_law_rows_here", "_law_table", "_law_slots", "_law_default", "_law_row_here", "_law_inside", "_law_word"]
theorem sc_law_give : FnScope N_law_give ["_law_parts_here", "_law_rows_here", "_law_table", "_law_slots"] (defScope s_law_give) := ⟨rfl, rfl, rfl, by decide +kernel, rfl, by decide +kernel, by decide +kernel⟩
abbrev s_law_true : Stmt := top 83
abbrev N_law_true : List Str := ["_law_parts_here", "_law_words_here", "_law_table", "_law_k", "_law_pair", "_law_word"]
theorem sc_law_true : FnScope N_law_true ["_law_parts_here", "_law_words_here"] (defScope s_law_true) := ⟨rfl, rfl, rfl, by decide +kernel, rfl, by decide +kernel, by decide +kernel⟩
abbrev s_law_plain_run : Stmt := top 84
abbrev N_law_plain_run : List Str := ["_law_parts_here", "_law_m", "_law_at", "_law_told", "_law_notes", "_law_word"]
theorem sc_law_plain_run : FnScope N_law_plain_run ["_law_parts_here", "_law_m", "_law_at"] (defScope s_law_plain_run) := ⟨rfl, rfl, rfl, by decide +kernel, rfl, by decide +kernel, by decide +kernel⟩
abbrev s_law_plain_write : Stmt := top 85
abbrev N_law_plain_write : List Str := ["_law_parts_here", "_law_m", "_law_writes", "_law_words_here", "_law_counted", "_law_pair", "_law_at", "_law_table"]
theorem sc_law_plain_write : FnScope N_law_plain_write ["_law_parts_here", "_law_m", "_law_writes"] (defScope s_law_plain_write) := ⟨rfl, rfl, rfl, by decide +kernel, rfl, by decide +kernel, by decide +kernel⟩
abbrev s_law_plain_rest : Stmt := top 86
abbrev N_law_plain_rest : List Str := ["_law_parts_here", "_law_m", "_law_bound", "_law_turn", "_law_first"]
theorem sc_law_plain_rest : FnScope N_law_plain_rest ["_law_parts_here", "_law_m", "_law_bound"] (defScope s_law_plain_rest) := ⟨rfl, rfl, rfl, by decide +kernel, rfl, by decide +kernel, by decide +kernel⟩
abbrev s_law_plain_begin : Stmt := top 87
abbrev N_law_plain_begin : List Str := ["_law_parts_here", "_law_words_here", "_law_bound", "_law_m", "_law_at", "_law_here", "_law_pair"]
theorem sc_law_plain_begin : FnScope N_law_plain_begin ["_law_parts_here", "_law_words_here", "_law_bound"] (defScope s_law_plain_begin) := ⟨rfl, rfl, rfl, by decide +kernel, rfl, by decide +kernel, by decide +kernel⟩
abbrev s_law_deed : Stmt := top 88
abbrev N_law_deed : List Str := ["_law_state_here", "_law_parts_here", "_law_kind", "_law_cells", "_law_source", "_law_rest", "_law_writes", "_law_turn", "_law_pair"]
theorem sc_law_deed : FnScope N_law_deed ["_law_state_here", "_law_parts_here"] (defScope s_law_deed) := ⟨rfl, rfl, rfl, by decide +kernel, rfl, by decide +kernel, by decide +kernel⟩
abbrev s_law_plain_step : Stmt := top 89
abbrev N_law_plain_step : List Str := ["_law_parts_here", "_law_here", "_law_deed_here", "_law_bound", "_law_m", "_law_after"]
theorem sc_law_plain_step : FnScope N_law_plain_step ["_law_parts_here", "_law_here", "_law_deed_here", "_law_bound"] (defScope s_law_plain_step) := ⟨rfl, rfl, rfl, by decide +kernel, rfl, by decide +kernel, by decide +kernel⟩
abbrev s_law_plain_deed : Stmt := top 90
abbrev N_law_plain_deed : List Str := ["_law_program_here", "_law_here", "_law_deed_here", "_law_bound", "_law_told", "e"]
theorem sc_law_plain_deed : FnScope N_law_plain_deed ["_law_program_here", "_law_here", "_law_deed_here", "_law_bound"] (defScope s_law_plain_deed) := ⟨rfl, rfl, rfl, by decide +kernel, rfl, by decide +kernel, by decide +kernel⟩
abbrev s_law_no_deed : Stmt := top 91
abbrev N_law_no_deed : List Str := ["_law_state_here", "_law_parts_here", "_law_source", "_law_word", "_law_wrong"]
theorem sc_law_no_deed : FnScope N_law_no_deed ["_law_state_here", "_law_parts_here"] (defScope s_law_no_deed) := ⟨rfl, rfl, rfl, by decide +kernel, rfl, by decide +kernel, by decide +kernel⟩
abbrev s_law : Stmt := top 92
abbrev N_law : List Str := ["_law_script", "_law_state_here", "_law_bound", "_law_many_here", "_law_parts_here", "_law_program_here", "_law_words_here", "_law_wrong", "_law_due", "_law_here", "_law_turn", "_law_deed_here"]
theorem sc_law : FnScope N_law ["_law_script"] (defScope s_law) := ⟨rfl, rfl, rfl, by decide +kernel, rfl, by decide +kernel, by decide +kernel⟩
/-- what stands behind the top -/
structure Tops (w : World) (K : PySem.W.Frag) (mg : Str → Option Value) where
  z_isinstance : mg "isinstance" = none
  z_str : mg "str" = none
  z_tuple : mg "tuple" = none
  z_list : mg "list" = none
  z_len : mg "len" = none
  z_all : mg "all" = none
  z_set : mg "set" = none
  z_enumerate : mg "enumerate" = none
  z_range : mg "range" = none
  z_abs : mg "abs" = none
  z_int : mg "int" = none
  z_max : mg "max" = none
  z_dict : mg "dict" = none
  z_zip : mg "zip" = none
  z_any : mg "any" = none
  z_bool : mg "bool" = none
  u_LONGEST_NAME : Tok
  c_LONGEST_NAME : mg "LONGEST_NAME" = some (.int 8 u_LONGEST_NAME)
  u_GREATEST_MOST : Tok
  c_GREATEST_MOST : mg "GREATEST_MOST" = some (.int 2000 u_GREATEST_MOST)
  u_MOST_ROWS : Tok
  c_MOST_ROWS : mg "MOST_ROWS" = some (.int 16 u_MOST_ROWS)
  u_DEEPEST_IF : Tok
  c_DEEPEST_IF : mg "DEEPEST_IF" = some (.int 3 u_DEEPEST_IF)
  u_LEAST_WORDS : Tok
  c_LEAST_WORDS : mg "LEAST_WORDS" = some (.int 2 u_LEAST_WORDS)
  u_MOST_WORDS : Tok
  c_MOST_WORDS : mg "MOST_WORDS" = some (.int 4 u_MOST_WORDS)
  u_LEAST_SOURCES : Tok
  c_LEAST_SOURCES : mg "LEAST_SOURCES" = some (.int 1 u_LEAST_SOURCES)
  u_MOST_SOURCES : Tok
  c_MOST_SOURCES : mg "MOST_SOURCES" = some (.int 4 u_MOST_SOURCES)
  u_MOST_DERIVED : Tok
  c_MOST_DERIVED : mg "MOST_DERIVED" = some (.int 6 u_MOST_DERIVED)
  u_MOST_EFFECTS : Tok
  c_MOST_EFFECTS : mg "MOST_EFFECTS" = some (.int 4 u_MOST_EFFECTS)
  a_is_integer : Addr
  d_is_integer : FuncData
  F_is_integer : Fun K "is_integer" "is_integer" s_is_integer a_is_integer d_is_integer
  b_is_integer : Binds K d_is_integer ["value"] []
  m_is_integer : mg "is_integer" = some (.ref a_is_integer)
  a_is_name : Addr
  d_is_name : FuncData
  F_is_name : Fun K "is_name" "is_name" s_is_name a_is_name d_is_name
  b_is_name : Binds K d_is_name ["value"] []
  m_is_name : mg "is_name" = some (.ref a_is_name)
  a_are_names : Addr
  d_are_names : FuncData
  F_are_names : Fun K "are_names" "are_names" s_are_names a_are_names d_are_names
  b_are_names : Binds K d_are_names ["value", "least", "most"] []
  m_are_names : mg "are_names" = some (.ref a_are_names)
  a_are_named_pairs : Addr
  d_are_named_pairs : FuncData
  F_are_named_pairs : Fun K "are_named_pairs" "are_named_pairs" s_are_named_pairs a_are_named_pairs d_are_named_pairs
  b_are_named_pairs : Binds K d_are_named_pairs ["value", "most", "taken"] []
  m_are_named_pairs : mg "are_named_pairs" = some (.ref a_are_named_pairs)
  a_InvalidProgram_init : Addr
  d_InvalidProgram_init : FuncData
  F_InvalidProgram_init : Fun K "__init__" "InvalidProgram.__init__" s_InvalidProgram_init a_InvalidProgram_init d_InvalidProgram_init
  b_InvalidProgram_init : Binds K d_InvalidProgram_init ["self", "part", "path"] []
  a_InvalidStart_init : Addr
  d_InvalidStart_init : FuncData
  F_InvalidStart_init : Fun K "__init__" "InvalidStart.__init__" s_InvalidStart_init a_InvalidStart_init d_InvalidStart_init
  b_InvalidStart_init : Binds K d_InvalidStart_init ["self", "words"] []
  a_InvalidDeed_init : Addr
  d_InvalidDeed_init : FuncData
  F_InvalidDeed_init : Fun K "__init__" "InvalidDeed.__init__" s_InvalidDeed_init a_InvalidDeed_init d_InvalidDeed_init
  b_InvalidDeed_init : Binds K d_InvalidDeed_init ["self", "deed"] []
  a_InvalidBound_init : Addr
  d_InvalidBound_init : FuncData
  F_InvalidBound_init : Fun K "__init__" "InvalidBound.__init__" s_InvalidBound_init a_InvalidBound_init d_InvalidBound_init
  b_InvalidBound_init : Binds K d_InvalidBound_init ["self", "value"] []
  a_UnknownCell_init : Addr
  d_UnknownCell_init : FuncData
  F_UnknownCell_init : Fun K "__init__" "UnknownCell.__init__" s_UnknownCell_init a_UnknownCell_init d_UnknownCell_init
  b_UnknownCell_init : Binds K d_UnknownCell_init ["self", "name"] []
  a_TooManyRuns_init : Addr
  d_TooManyRuns_init : FuncData
  F_TooManyRuns_init : Fun K "__init__" "TooManyRuns.__init__" s_TooManyRuns_init a_TooManyRuns_init d_TooManyRuns_init
  b_TooManyRuns_init : Binds K d_TooManyRuns_init ["self", "most"] []
  a_check_bound : Addr
  d_check_bound : FuncData
  F_check_bound : Fun K "check_bound" "check_bound" s_check_bound a_check_bound d_check_bound
  b_check_bound : Binds K d_check_bound ["value", "greatest"] []
  m_check_bound : mg "check_bound" = some (.ref a_check_bound)
  a_check_most : Addr
  d_check_most : FuncData
  F_check_most : Fun K "check_most" "check_most" s_check_most a_check_most d_check_most
  b_check_most : Binds K d_check_most ["value"] []
  m_check_most : mg "check_most" = some (.ref a_check_most)
  a_Record_init : Addr
  d_Record_init : FuncData
  F_Record_init : Fun K "__init__" "Record.__init__" s_Record_init a_Record_init d_Record_init
  b_Record_init : Binds K d_Record_init ["self"] []
  a_Record_parts : Addr
  d_Record_parts : FuncData
  F_Record_parts : Fun K "parts" "Record.parts" s_Record_parts a_Record_parts d_Record_parts
  b_Record_parts : Binds K d_Record_parts ["self"] []
  a_TrueRun_init : Addr
  d_TrueRun_init : FuncData
  a_TrueRun_word_in : Addr
  d_TrueRun_word_in : FuncData
  F_TrueRun_word_in : Fun K "word_in" "TrueRun.word_in" s_TrueRun_word_in a_TrueRun_word_in d_TrueRun_word_in
  b_TrueRun_word_in : Binds K d_TrueRun_word_in ["self", "slot"] []
  a_do_read : Addr
  d_do_read : FuncData
  F_do_read : Fun K "do_read" "do_read" s_do_read a_do_read d_do_read
  b_do_read : Binds K d_do_read ["run", "row"] []
  m_do_read : mg "do_read" = some (.ref a_do_read)
  a_do_peek : Addr
  d_do_peek : FuncData
  F_do_peek : Fun K "do_peek" "do_peek" s_do_peek a_do_peek d_do_peek
  b_do_peek : Binds K d_do_peek ["run", "row"] []
  m_do_peek : mg "do_peek" = some (.ref a_do_peek)
  a_do_put : Addr
  d_do_put : FuncData
  F_do_put : Fun K "do_put" "do_put" s_do_put a_do_put d_do_put
  b_do_put : Binds K d_do_put ["run", "row"] []
  m_do_put : mg "do_put" = some (.ref a_do_put)
  a_do_write : Addr
  d_do_write : FuncData
  F_do_write : Fun K "do_write" "do_write" s_do_write a_do_write d_do_write
  b_do_write : Binds K d_do_write ["run", "row"] []
  m_do_write : mg "do_write" = some (.ref a_do_write)
  a_do_say : Addr
  d_do_say : FuncData
  F_do_say : Fun K "do_say" "do_say" s_do_say a_do_say d_do_say
  b_do_say : Binds K d_do_say ["run", "row"] []
  m_do_say : mg "do_say" = some (.ref a_do_say)
  a_do_rows : Addr
  d_do_rows : FuncData
  F_do_rows : Fun K "do_rows" "do_rows" s_do_rows a_do_rows d_do_rows
  b_do_rows : Binds K d_do_rows ["run", "rows"] []
  m_do_rows : mg "do_rows" = some (.ref a_do_rows)
  a_run_truly : Addr
  d_run_truly : FuncData
  F_run_truly : Fun K "run_truly" "run_truly" s_run_truly a_run_truly d_run_truly
  b_run_truly : Binds K d_run_truly ["program", "known", "rows"] []
  m_run_truly : mg "run_truly" = some (.ref a_run_truly)
  a_is_start : Addr
  d_is_start : FuncData
  F_is_start : Fun K "is_start" "is_start" s_is_start a_is_start d_is_start
  b_is_start : Binds K d_is_start ["program", "words"] []
  m_is_start : mg "is_start" = some (.ref a_is_start)
  a_check_start : Addr
  d_check_start : FuncData
  F_check_start : Fun K "check_start" "check_start" s_check_start a_check_start d_check_start
  b_check_start : Binds K d_check_start ["program", "words"] []
  m_check_start : mg "check_start" = some (.ref a_check_start)
  a_known_words : Addr
  d_known_words : FuncData
  F_known_words : Fun K "known_words" "known_words" s_known_words a_known_words d_known_words
  b_known_words : Binds K d_known_words ["program", "words"] []
  m_known_words : mg "known_words" = some (.ref a_known_words)
  a_is_deed : Addr
  d_is_deed : FuncData
  F_is_deed : Fun K "is_deed" "is_deed" s_is_deed a_is_deed d_is_deed
  b_is_deed : Binds K d_is_deed ["program", "value"] []
  m_is_deed : mg "is_deed" = some (.ref a_is_deed)
  a_is_write : Addr
  d_is_write : FuncData
  F_is_write : Fun K "is_write" "is_write" s_is_write a_is_write d_is_write
  b_is_write : Binds K d_is_write ["program", "value"] []
  m_is_write : mg "is_write" = some (.ref a_is_write)
  a_is_batch : Addr
  d_is_batch : FuncData
  F_is_batch : Fun K "is_batch" "is_batch" s_is_batch a_is_batch d_is_batch
  b_is_batch : Binds K d_is_batch ["program", "value"] []
  m_is_batch : mg "is_batch" = some (.ref a_is_batch)
  a_PlainMachine_init : Addr
  d_PlainMachine_init : FuncData
  F_PlainMachine_init : Fun K "__init__" "PlainMachine.__init__" s_PlainMachine_init a_PlainMachine_init d_PlainMachine_init
  b_PlainMachine_init : Binds K d_PlainMachine_init ["self", "program", "words", "notes", "most"] []
  a_PlainMachine_words_now : Addr
  d_PlainMachine_words_now : FuncData
  F_PlainMachine_words_now : Fun K "words_now" "PlainMachine.words_now" s_PlainMachine_words_now a_PlainMachine_words_now d_PlainMachine_words_now
  b_PlainMachine_words_now : Binds K d_PlainMachine_words_now ["self"] []
  a_PlainMachine_true_now : Addr
  d_PlainMachine_true_now : FuncData
  F_PlainMachine_true_now : Fun K "true_now" "PlainMachine.true_now" s_PlainMachine_true_now a_PlainMachine_true_now d_PlainMachine_true_now
  b_PlainMachine_true_now : Binds K d_PlainMachine_true_now ["self"] []
  a_PlainMachine_at_rest : Addr
  d_PlainMachine_at_rest : FuncData
  F_PlainMachine_at_rest : Fun K "at_rest" "PlainMachine.at_rest" s_PlainMachine_at_rest a_PlainMachine_at_rest d_PlainMachine_at_rest
  b_PlainMachine_at_rest : Binds K d_PlainMachine_at_rest ["self"] []
  a_PlainMachine_write_together : Addr
  d_PlainMachine_write_together : FuncData
  F_PlainMachine_write_together : Fun K "write_together" "PlainMachine.write_together" s_PlainMachine_write_together a_PlainMachine_write_together d_PlainMachine_write_together
  b_PlainMachine_write_together : Binds K d_PlainMachine_write_together ["self", "writes"] []
  a_PlainMachine_look_at_effects : Addr
  d_PlainMachine_look_at_effects : FuncData
  F_PlainMachine_look_at_effects : Fun K "look_at_effects" "PlainMachine.look_at_effects" s_PlainMachine_look_at_effects a_PlainMachine_look_at_effects d_PlainMachine_look_at_effects
  b_PlainMachine_look_at_effects : Binds K d_PlainMachine_look_at_effects ["self"] []
  a_PlainMachine_work_off_waiting : Addr
  d_PlainMachine_work_off_waiting : FuncData
  F_PlainMachine_work_off_waiting : Fun K "work_off_waiting" "PlainMachine.work_off_waiting" s_PlainMachine_work_off_waiting a_PlainMachine_work_off_waiting d_PlainMachine_work_off_waiting
  b_PlainMachine_work_off_waiting : Binds K d_PlainMachine_work_off_waiting ["self"] []
  a_plain_begin : Addr
  d_plain_begin : FuncData
  F_plain_begin : FunD K "plain_begin" "plain_begin" (defArgs s_plain_begin) (defBody s_plain_begin) (defScope s_plain_begin) [] [("most", .int 200)] a_plain_begin d_plain_begin
  bx_plain_begin : ∃ ds : List Value, Vals [V.int 200] ds ∧ Binds K d_plain_begin ["program", "words", "most"] ds
  kb_plain_begin : KBn K d_plain_begin ["program", "words", "most"] 2 ["most"] (fun us ws => us ++ ws) (fun vs zs => vs ++ zs)
  m_plain_begin : mg "plain_begin" = some (.ref a_plain_begin)
  a_plain_step : Addr
  d_plain_step : FuncData
  F_plain_step : FunD K "plain_step" "plain_step" (defArgs s_plain_step) (defBody s_plain_step) (defScope s_plain_step) [] [("most", .int 200)] a_plain_step d_plain_step
  bx_plain_step : ∃ ds : List Value, Vals [V.int 200] ds ∧ Binds K d_plain_step ["program", "standing", "deed", "most"] ds
  kb_plain_step : KBn K d_plain_step ["program", "standing", "deed", "most"] 3 ["most"] (fun us ws => us ++ ws) (fun vs zs => vs ++ zs)
  m_plain_step : mg "plain_step" = some (.ref a_plain_step)
  a_Scope_init : Addr
  d_Scope_init : FuncData
  F_Scope_init : Fun K "__init__" "Scope.__init__" s_Scope_init a_Scope_init d_Scope_init
  b_Scope_init : Binds K d_Scope_init ["self", "kind", "words", "sources", "readable"] []
  a_is_read_row : Addr
  d_is_read_row : FuncData
  F_is_read_row : Fun K "is_read_row" "is_read_row" s_is_read_row a_is_read_row d_is_read_row
  b_is_read_row : Binds K d_is_read_row ["row", "scope"] []
  m_is_read_row : mg "is_read_row" = some (.ref a_is_read_row)
  a_is_put_row : Addr
  d_is_put_row : FuncData
  F_is_put_row : Fun K "is_put_row" "is_put_row" s_is_put_row a_is_put_row d_is_put_row
  b_is_put_row : Binds K d_is_put_row ["row", "scope"] []
  m_is_put_row : mg "is_put_row" = some (.ref a_is_put_row)
  a_is_if_row : Addr
  d_is_if_row : FuncData
  F_is_if_row : Fun K "is_if_row" "is_if_row" s_is_if_row a_is_if_row d_is_if_row
  b_is_if_row : Binds K d_is_if_row ["row", "scope"] []
  m_is_if_row : mg "is_if_row" = some (.ref a_is_if_row)
  a_is_slot_row : Addr
  d_is_slot_row : FuncData
  F_is_slot_row : Fun K "is_slot_row" "is_slot_row" s_is_slot_row a_is_slot_row d_is_slot_row
  b_is_slot_row : Binds K d_is_slot_row ["row", "scope"] []
  m_is_slot_row : mg "is_slot_row" = some (.ref a_is_slot_row)
  a_is_write_row : Addr
  d_is_write_row : FuncData
  F_is_write_row : Fun K "is_write_row" "is_write_row" s_is_write_row a_is_write_row d_is_write_row
  b_is_write_row : Binds K d_is_write_row ["row", "scope"] []
  m_is_write_row : mg "is_write_row" = some (.ref a_is_write_row)
  a_check_of : Addr
  d_check_of : FuncData
  F_check_of : Fun K "check_of" "check_of" s_check_of a_check_of d_check_of
  b_check_of : Binds K d_check_of ["kind", "form"] []
  m_check_of : mg "check_of" = some (.ref a_check_of)
  a_is_valid_row : Addr
  d_is_valid_row : FuncData
  F_is_valid_row : Fun K "is_valid_row" "is_valid_row" s_is_valid_row a_is_valid_row d_is_valid_row
  b_is_valid_row : Binds K d_is_valid_row ["row", "scope", "depth"] []
  m_is_valid_row : mg "is_valid_row" = some (.ref a_is_valid_row)
  a_first_wrong_path : Addr
  d_first_wrong_path : FuncData
  F_first_wrong_path : Fun K "first_wrong_path" "first_wrong_path" s_first_wrong_path a_first_wrong_path d_first_wrong_path
  b_first_wrong_path : Binds K d_first_wrong_path ["rows", "scope", "base", "depth"] []
  m_first_wrong_path : mg "first_wrong_path" = some (.ref a_first_wrong_path)
  a_paths_of_rows : Addr
  d_paths_of_rows : FuncData
  F_paths_of_rows : Fun K "paths_of_rows" "paths_of_rows" s_paths_of_rows a_paths_of_rows d_paths_of_rows
  b_paths_of_rows : Binds K d_paths_of_rows ["rows", "base"] []
  m_paths_of_rows : mg "paths_of_rows" = some (.ref a_paths_of_rows)
  a_Program_init : Addr
  d_Program_init : FuncData
  F_Program_init : Fun K "__init__" "Program.__init__" s_Program_init a_Program_init d_Program_init
  b_Program_init : Binds K d_Program_init ["self", "words", "sources", "derived", "effects"] []
  a_Program_eq : Addr
  d_Program_eq : FuncData
  F_Program_eq : Fun K "__eq__" "Program.__eq__" s_Program_eq a_Program_eq d_Program_eq
  b_Program_eq : Binds K d_Program_eq ["self", "other"] []
  a_Program_cells : Addr
  d_Program_cells : FuncData
  F_Program_cells : Fun K "cells" "Program.cells" s_Program_cells a_Program_cells d_Program_cells
  b_Program_cells : Binds K d_Program_cells ["self"] []
  a_Program_derived_names : Addr
  d_Program_derived_names : FuncData
  F_Program_derived_names : Fun K "derived_names" "Program.derived_names" s_Program_derived_names a_Program_derived_names d_Program_derived_names
  b_Program_derived_names : Binds K d_Program_derived_names ["self"] []
  a_Program_effect_names : Addr
  d_Program_effect_names : FuncData
  F_Program_effect_names : Fun K "effect_names" "Program.effect_names" s_Program_effect_names a_Program_effect_names d_Program_effect_names
  b_Program_effect_names : Binds K d_Program_effect_names ["self"] []
  a_Program_body : Addr
  d_Program_body : FuncData
  F_Program_body : Fun K "body" "Program.body" s_Program_body a_Program_body d_Program_body
  b_Program_body : Binds K d_Program_body ["self", "name"] []
  a_Program_row_paths : Addr
  d_Program_row_paths : FuncData
  F_Program_row_paths : Fun K "row_paths" "Program.row_paths" s_Program_row_paths a_Program_row_paths d_Program_row_paths
  b_Program_row_paths : Binds K d_Program_row_paths ["self"] []
  a_Program_row_at : Addr
  d_Program_row_at : FuncData
  F_Program_row_at : Fun K "row_at" "Program.row_at" s_Program_row_at a_Program_row_at d_Program_row_at
  b_Program_row_at : Binds K d_Program_row_at ["self", "path"] []
  a_Program_with_row : Addr
  d_Program_with_row : FuncData
  F_Program_with_row : Fun K "with_row" "Program.with_row" s_Program_with_row a_Program_with_row d_Program_with_row
  b_Program_with_row : Binds K d_Program_with_row ["self", "path", "row"] []
  a_names_of : Addr
  d_names_of : FuncData
  F_names_of : Fun K "names_of" "names_of" s_names_of a_names_of d_names_of
  b_names_of : Binds K d_names_of ["pairs"] []
  m_names_of : mg "names_of" = some (.ref a_names_of)
  a_check_parts : Addr
  d_check_parts : FuncData
  F_check_parts : Fun K "check_parts" "check_parts" s_check_parts a_check_parts d_check_parts
  b_check_parts : Binds K d_check_parts ["words", "sources", "derived", "effects"] []
  m_check_parts : mg "check_parts" = some (.ref a_check_parts)
  a_check_bodies : Addr
  d_check_bodies : FuncData
  F_check_bodies : Fun K "check_bodies" "check_bodies" s_check_bodies a_check_bodies d_check_bodies
  b_check_bodies : Binds K d_check_bodies ["words", "sources", "derived", "effects"] []
  m_check_bodies : mg "check_bodies" = some (.ref a_check_bodies)
  a_check_body : Addr
  d_check_body : FuncData
  F_check_body : Fun K "check_body" "check_body" s_check_body a_check_body d_check_body
  b_check_body : Binds K d_check_body ["rows", "scope", "index"] []
  m_check_body : mg "check_body" = some (.ref a_check_body)
  a__law_state : Addr
  d__law_state : FuncData
  F__law_state : Fun K "_law_state" "_law_state" s_law_state a__law_state d__law_state
  b__law_state : Binds K d__law_state ["_law_script"] []
  m__law_state : mg "_law_state" = some (.ref a__law_state)
  a__law_draw : Addr
  d__law_draw : FuncData
  F__law_draw : Fun K "_law_draw" "_law_draw" s_law_draw a__law_draw d__law_draw
  b__law_draw : Binds K d__law_draw ["_law_state_here", "_law_many_here"] []
  m__law_draw : mg "_law_draw" = some (.ref a__law_draw)
  a__law_names : Addr
  d__law_names : FuncData
  F__law_names : Fun K "_law_names" "_law_names" s_law_names a__law_names d__law_names
  b__law_names : Binds K d__law_names ["_law_state_here", "_law_many_here"] []
  m__law_names : mg "_law_names" = some (.ref a__law_names)
  a__law_many : Addr
  d__law_many : FuncData
  F__law_many : Fun K "_law_many" "_law_many" s_law_many a__law_many d__law_many
  b__law_many : Binds K d__law_many ["_law_rows_here"] []
  m__law_many : mg "_law_many" = some (.ref a__law_many)
  a__law_row : Addr
  d__law_row : FuncData
  F__law_row : Fun K "_law_row" "_law_row" s_law_row a__law_row d__law_row
  b__law_row : Binds K d__law_row ["_law_state_here", "_law_shape"] []
  m__law_row : mg "_law_row" = some (.ref a__law_row)
  a__law_rows : Addr
  d__law_rows : FuncData
  F__law_rows : Fun K "_law_rows" "_law_rows" s_law_rows a__law_rows d__law_rows
  b__law_rows : Binds K d__law_rows ["_law_state_here", "_law_shape", "_law_depth", "_law_room"] []
  m__law_rows : mg "_law_rows" = some (.ref a__law_rows)
  a__law_parts : Addr
  d__law_parts : FuncData
  F__law_parts : Fun K "_law_parts" "_law_parts" s_law_parts a__law_parts d__law_parts
  b__law_parts : Binds K d__law_parts ["_law_state_here", "_law_sizes", "_law_peeks", "_law_writes"] []
  m__law_parts : mg "_law_parts" = some (.ref a__law_parts)
  a__law_program : Addr
  d__law_program : FuncData
  F__law_program : Fun K "_law_program" "_law_program" s_law_program a__law_program d__law_program
  b__law_program : Binds K d__law_program ["_law_parts_here"] []
  m__law_program : mg "_law_program" = some (.ref a__law_program)
  a__law_words : Addr
  d__law_words : FuncData
  F__law_words : Fun K "_law_words" "_law_words" s_law_words a__law_words d__law_words
  b__law_words : Binds K d__law_words ["_law_state_here", "_law_parts_here"] []
  m__law_words : mg "_law_words" = some (.ref a__law_words)
  a__law_wrong_words : Addr
  d__law_wrong_words : FuncData
  F__law_wrong_words : Fun K "_law_wrong_words" "_law_wrong_words" s_law_wrong_words a__law_wrong_words d__law_wrong_words
  b__law_wrong_words : Binds K d__law_wrong_words ["_law_state_here", "_law_words_here"] []
  m__law_wrong_words : mg "_law_wrong_words" = some (.ref a__law_wrong_words)
  a__law_plain_start : Addr
  d__law_plain_start : FuncData
  F__law_plain_start : Fun K "_law_plain_start" "_law_plain_start" s_law_plain_start a__law_plain_start d__law_plain_start
  b__law_plain_start : Binds K d__law_plain_start ["_law_program_here", "_law_words_here", "_law_bound"] []
  m__law_plain_start : mg "_law_plain_start" = some (.ref a__law_plain_start)
  a__law_effect : Addr
  d__law_effect : FuncData
  F__law_effect : Fun K "_law_effect" "_law_effect" s_law_effect a__law_effect d__law_effect
  b__law_effect : Binds K d__law_effect ["_law_parts_here", "_law_rows_here", "_law_table", "_law_slots", "_law_told"] []
  m__law_effect : mg "_law_effect" = some (.ref a__law_effect)
  a__law_give : Addr
  d__law_give : FuncData
  F__law_give : Fun K "_law_give" "_law_give" s_law_give a__law_give d__law_give
  b__law_give : Binds K d__law_give ["_law_parts_here", "_law_rows_here", "_law_table", "_law_slots"] []
  m__law_give : mg "_law_give" = some (.ref a__law_give)
  a__law_true : Addr
  d__law_true : FuncData
  F__law_true : Fun K "_law_true" "_law_true" s_law_true a__law_true d__law_true
  b__law_true : Binds K d__law_true ["_law_parts_here", "_law_words_here"] []
  m__law_true : mg "_law_true" = some (.ref a__law_true)
  a__law_plain_run : Addr
  d__law_plain_run : FuncData
  F__law_plain_run : Fun K "_law_plain_run" "_law_plain_run" s_law_plain_run a__law_plain_run d__law_plain_run
  b__law_plain_run : Binds K d__law_plain_run ["_law_parts_here", "_law_m", "_law_at"] []
  m__law_plain_run : mg "_law_plain_run" = some (.ref a__law_plain_run)
  a__law_plain_write : Addr
  d__law_plain_write : FuncData
  F__law_plain_write : Fun K "_law_plain_write" "_law_plain_write" s_law_plain_write a__law_plain_write d__law_plain_write
  b__law_plain_write : Binds K d__law_plain_write ["_law_parts_here", "_law_m", "_law_writes"] []
  m__law_plain_write : mg "_law_plain_write" = some (.ref a__law_plain_write)
  a__law_plain_rest : Addr
  d__law_plain_rest : FuncData
  F__law_plain_rest : Fun K "_law_plain_rest" "_law_plain_rest" s_law_plain_rest a__law_plain_rest d__law_plain_rest
  b__law_plain_rest : Binds K d__law_plain_rest ["_law_parts_here", "_law_m", "_law_bound"] []
  m__law_plain_rest : mg "_law_plain_rest" = some (.ref a__law_plain_rest)
  a__law_plain_begin : Addr
  d__law_plain_begin : FuncData
  F__law_plain_begin : Fun K "_law_plain_begin" "_law_plain_begin" s_law_plain_begin a__law_plain_begin d__law_plain_begin
  b__law_plain_begin : Binds K d__law_plain_begin ["_law_parts_here", "_law_words_here", "_law_bound"] []
  m__law_plain_begin : mg "_law_plain_begin" = some (.ref a__law_plain_begin)
  a__law_deed : Addr
  d__law_deed : FuncData
  F__law_deed : Fun K "_law_deed" "_law_deed" s_law_deed a__law_deed d__law_deed
  b__law_deed : Binds K d__law_deed ["_law_state_here", "_law_parts_here"] []
  m__law_deed : mg "_law_deed" = some (.ref a__law_deed)
  a__law_plain_step : Addr
  d__law_plain_step : FuncData
  F__law_plain_step : Fun K "_law_plain_step" "_law_plain_step" s_law_plain_step a__law_plain_step d__law_plain_step
  b__law_plain_step : Binds K d__law_plain_step ["_law_parts_here", "_law_here", "_law_deed_here", "_law_bound"] []
  m__law_plain_step : mg "_law_plain_step" = some (.ref a__law_plain_step)
  a__law_plain_deed : Addr
  d__law_plain_deed : FuncData
  F__law_plain_deed : Fun K "_law_plain_deed" "_law_plain_deed" s_law_plain_deed a__law_plain_deed d__law_plain_deed
  b__law_plain_deed : Binds K d__law_plain_deed ["_law_program_here", "_law_here", "_law_deed_here", "_law_bound"] []
  m__law_plain_deed : mg "_law_plain_deed" = some (.ref a__law_plain_deed)
  a__law_no_deed : Addr
  d__law_no_deed : FuncData
  F__law_no_deed : Fun K "_law_no_deed" "_law_no_deed" s_law_no_deed a__law_no_deed d__law_no_deed
  b__law_no_deed : Binds K d__law_no_deed ["_law_state_here", "_law_parts_here"] []
  m__law_no_deed : mg "_law_no_deed" = some (.ref a__law_no_deed)
  a_law : Addr
  d_law : FuncData
  F_law : Fun K "law" "law" s_law a_law d_law
  b_law : Binds K d_law ["_law_script"] []
  m_law : mg "law" = some (.ref a_law)
  c_ToldError : Addr
  m_ToldError : mg "ToldError" = some (.ref c_ToldError)
  c_InvalidProgram : Addr
  m_InvalidProgram : mg "InvalidProgram" = some (.ref c_InvalidProgram)
  c_InvalidStart : Addr
  m_InvalidStart : mg "InvalidStart" = some (.ref c_InvalidStart)
  x_InvalidStart : OexC K c_InvalidStart
  xi_InvalidStart : PySem.W.findIn K (.ref c_InvalidStart) "__init__" = some (some (.ref a_InvalidStart_init))
  xt_InvalidStart : PySem.W.typeIn K (.ref a_InvalidStart_init) = some (.type "function")
  n_InvalidStart_words : PySem.W.findIn K (.ref c_InvalidStart) "words" = some none
  xa_InvalidStart : PySem.W.findIn K (.ref c_InvalidStart) "__getattribute__" = some (some (.builtin "BaseException.__getattribute__"))
  xg_InvalidStart : PySem.W.findIn K (.ref c_InvalidStart) "__getattr__" = some none
  xh_InvalidStart : PySem.W.hasDictIn K c_InvalidStart = true
  xe_InvalidStart : PySem.W.exmOne K (.ref c_InvalidStart) (.ref c_InvalidStart) = some true
  c_InvalidDeed : Addr
  m_InvalidDeed : mg "InvalidDeed" = some (.ref c_InvalidDeed)
  x_InvalidDeed : OexC K c_InvalidDeed
  xi_InvalidDeed : PySem.W.findIn K (.ref c_InvalidDeed) "__init__" = some (some (.ref a_InvalidDeed_init))
  xt_InvalidDeed : PySem.W.typeIn K (.ref a_InvalidDeed_init) = some (.type "function")
  n_InvalidDeed_deed : PySem.W.findIn K (.ref c_InvalidDeed) "deed" = some none
  xa_InvalidDeed : PySem.W.findIn K (.ref c_InvalidDeed) "__getattribute__" = some (some (.builtin "BaseException.__getattribute__"))
  xg_InvalidDeed : PySem.W.findIn K (.ref c_InvalidDeed) "__getattr__" = some none
  xh_InvalidDeed : PySem.W.hasDictIn K c_InvalidDeed = true
  xe_InvalidDeed : PySem.W.exmOne K (.ref c_InvalidDeed) (.ref c_InvalidDeed) = some true
  xn_InvalidDeed_InvalidStart : PySem.W.exmOne K (.ref c_InvalidDeed) (.ref c_InvalidStart) = some false
  c_InvalidBound : Addr
  m_InvalidBound : mg "InvalidBound" = some (.ref c_InvalidBound)
  c_UnknownCell : Addr
  m_UnknownCell : mg "UnknownCell" = some (.ref c_UnknownCell)
  c_TooManyRuns : Addr
  m_TooManyRuns : mg "TooManyRuns" = some (.ref c_TooManyRuns)
  x_TooManyRuns : OexC K c_TooManyRuns
  xi_TooManyRuns : PySem.W.findIn K (.ref c_TooManyRuns) "__init__" = some (some (.ref a_TooManyRuns_init))
  xt_TooManyRuns : PySem.W.typeIn K (.ref a_TooManyRuns_init) = some (.type "function")
  n_TooManyRuns_most : PySem.W.findIn K (.ref c_TooManyRuns) "most" = some none
  xa_TooManyRuns : PySem.W.findIn K (.ref c_TooManyRuns) "__getattribute__" = some (some (.builtin "BaseException.__getattribute__"))
  xg_TooManyRuns : PySem.W.findIn K (.ref c_TooManyRuns) "__getattr__" = some none
  xh_TooManyRuns : PySem.W.hasDictIn K c_TooManyRuns = true
  xe_TooManyRuns : PySem.W.exmOne K (.ref c_TooManyRuns) (.ref c_TooManyRuns) = some true
  xn_TooManyRuns_InvalidStart : PySem.W.exmOne K (.ref c_TooManyRuns) (.ref c_InvalidStart) = some false
  xn_TooManyRuns_InvalidDeed : PySem.W.exmOne K (.ref c_TooManyRuns) (.ref c_InvalidDeed) = some false
  c_Record : Addr
  m_Record : mg "Record" = some (.ref c_Record)
  c_TrueRun : Addr
  m_TrueRun : mg "TrueRun" = some (.ref c_TrueRun)
  l_TrueRun : Cls K c_TrueRun
  k_TrueRun : Mk K c_TrueRun a_TrueRun_init
  n_TrueRun_default : NoAttr K c_TrueRun "default"
  n_TrueRun_known : NoAttr K c_TrueRun "known"
  n_TrueRun_slots : NoAttr K c_TrueRun "slots"
  n_TrueRun_noted : NoAttr K c_TrueRun "noted"
  n_TrueRun_peeked : NoAttr K c_TrueRun "peeked"
  n_TrueRun_said : NoAttr K c_TrueRun "said"
  n_TrueRun_written : NoAttr K c_TrueRun "written"
  n_TrueRun_given : NoAttr K c_TrueRun "given"
  t_TrueRun_word_in : Meth K c_TrueRun "word_in" a_TrueRun_word_in
  c_PlainMachine : Addr
  m_PlainMachine : mg "PlainMachine" = some (.ref c_PlainMachine)
  l_PlainMachine : Cls K c_PlainMachine
  k_PlainMachine : Mk K c_PlainMachine a_PlainMachine_init
  n_PlainMachine_program : NoAttr K c_PlainMachine "program"
  n_PlainMachine_most : NoAttr K c_PlainMachine "most"
  n_PlainMachine_held : NoAttr K c_PlainMachine "held"
  n_PlainMachine_notes : NoAttr K c_PlainMachine "notes"
  n_PlainMachine_waiting : NoAttr K c_PlainMachine "waiting"
  n_PlainMachine_log : NoAttr K c_PlainMachine "log"
  n_PlainMachine_runs : NoAttr K c_PlainMachine "runs"
  t_PlainMachine_words_now : Meth K c_PlainMachine "words_now" a_PlainMachine_words_now
  t_PlainMachine_true_now : Meth K c_PlainMachine "true_now" a_PlainMachine_true_now
  t_PlainMachine_at_rest : Meth K c_PlainMachine "at_rest" a_PlainMachine_at_rest
  t_PlainMachine_write_together : Meth K c_PlainMachine "write_together" a_PlainMachine_write_together
  t_PlainMachine_look_at_effects : Meth K c_PlainMachine "look_at_effects" a_PlainMachine_look_at_effects
  t_PlainMachine_work_off_waiting : Meth K c_PlainMachine "work_off_waiting" a_PlainMachine_work_off_waiting
  c_Scope : Addr
  m_Scope : mg "Scope" = some (.ref c_Scope)
  l_Scope : Cls K c_Scope
  k_Scope : Mk K c_Scope a_Scope_init
  n_Scope_kind : NoAttr K c_Scope "kind"
  n_Scope_words : NoAttr K c_Scope "words"
  n_Scope_sources : NoAttr K c_Scope "sources"
  n_Scope_readable : NoAttr K c_Scope "readable"
  c_Program : Addr
  m_Program : mg "Program" = some (.ref c_Program)
  l_Program : Cls K c_Program
  k_Program : Mk K c_Program a_Program_init
  n_Program_words : NoAttr K c_Program "words"
  n_Program_sources : NoAttr K c_Program "sources"
  n_Program_derived : NoAttr K c_Program "derived"
  n_Program_effects : NoAttr K c_Program "effects"
  n_Program__derived_names : NoAttr K c_Program "_derived_names"
  n_Program__effect_names : NoAttr K c_Program "_effect_names"
  t_Program_cells : Meth K c_Program "cells" a_Program_cells
  t_Program_derived_names : Meth K c_Program "derived_names" a_Program_derived_names
  t_Program_effect_names : Meth K c_Program "effect_names" a_Program_effect_names
  t_Program_body : Meth K c_Program "body" a_Program_body
  t_Program_row_paths : Meth K c_Program "row_paths" a_Program_row_paths
  t_Program_row_at : Meth K c_Program "row_at" a_Program_row_at
  t_Program_with_row : Meth K c_Program "with_row" a_Program_with_row
  F_TrueRun_init : Sup PySem.Challenge.pw_toldonward_k68_whole_plain_machine K "TrueRun.__init__" s_TrueRun_init a_TrueRun_init c_TrueRun a_Record_init d_TrueRun_init
  b_TrueRun_init : Binds K d_TrueRun_init ["self", "default", "known"] []
  t_TrueRun_parts : Meth K c_TrueRun "parts" a_Record_parts
  a_DERIVED_FORMS : Addr
  c_DERIVED_FORMS : mg "DERIVED_FORMS" = some (.ref a_DERIVED_FORMS)
  w_DERIVED_FORMS : KTab K w a_DERIVED_FORMS
  w_DERIVED_FORMS_read : KDct K w a_DERIVED_FORMS "read" (.ref a_is_read_row)
  w_DERIVED_FORMS_put : KDct K w a_DERIVED_FORMS "put" (.ref a_is_put_row)
  w_DERIVED_FORMS_if : KDct K w a_DERIVED_FORMS "if" (.ref a_is_if_row)
  w_DERIVED_FORMS_give : KDct K w a_DERIVED_FORMS "give" (.ref a_is_slot_row)
  a_EFFECT_FORMS : Addr
  c_EFFECT_FORMS : mg "EFFECT_FORMS" = some (.ref a_EFFECT_FORMS)
  w_EFFECT_FORMS : KTab K w a_EFFECT_FORMS
  w_EFFECT_FORMS_read : KDct K w a_EFFECT_FORMS "read" (.ref a_is_read_row)
  w_EFFECT_FORMS_peek : KDct K w a_EFFECT_FORMS "peek" (.ref a_is_read_row)
  w_EFFECT_FORMS_put : KDct K w a_EFFECT_FORMS "put" (.ref a_is_put_row)
  w_EFFECT_FORMS_if : KDct K w a_EFFECT_FORMS "if" (.ref a_is_if_row)
  w_EFFECT_FORMS_write : KDct K w a_EFFECT_FORMS "write" (.ref a_is_write_row)
  w_EFFECT_FORMS_say : KDct K w a_EFFECT_FORMS "say" (.ref a_is_slot_row)
  a_ACTIONS : Addr
  c_ACTIONS : mg "ACTIONS" = some (.ref a_ACTIONS)
  w_ACTIONS : KTab K w a_ACTIONS
  w_ACTIONS_read : KDct K w a_ACTIONS "read" (.ref a_do_read)
  w_ACTIONS_peek : KDct K w a_ACTIONS "peek" (.ref a_do_peek)
  w_ACTIONS_put : KDct K w a_ACTIONS "put" (.ref a_do_put)
  w_ACTIONS_write : KDct K w a_ACTIONS "write" (.ref a_do_write)
  w_ACTIONS_say : KDct K w a_ACTIONS "say" (.ref a_do_say)
  xn_InvalidStart_TooManyRuns : PySem.W.exmOne K (.ref c_InvalidStart) (.ref c_TooManyRuns) = some false
  xn_InvalidDeed_TooManyRuns : PySem.W.exmOne K (.ref c_InvalidDeed) (.ref c_TooManyRuns) = some false
end K68
namespace K68
open PySem PySem.Spec PyProof.Rows L2 Td
/-- the state of the draws at st -/
def stL (sc : Addr) (i d c s : Int) : List V := [.ref sc, .int i, .int d, .int c, .int s]
def StOk (H : Hp) (st sc : Addr) : Prop := ∃ (cs : List Int) (i d c s : Int),
  H st = some (.lst (stL sc i d c s)) ∧ H sc = some (.lst (cs.map V.int)) ∧ 0 ≤ d ∧ 0 ≤ i ∧ i ≤ cs.length ∧ cs.length ≤ 63 ∧ sc ≠ st
def spDraw : Sp := fun vs H Q _ => ∃ (st sc : Addr) (m : Int), vs = [.ref st, .int m] ∧ 0 < m ∧ m < 2 ^ 64 ∧ StOk H st sc ∧
  ∀ (r : Int) (H' : Hp), 0 ≤ r → r < m → Keep st H H' → StOk H' st sc → (∃ L, H' = upd H st (.lst L)) → Q (.int r) H'
def spState (K : PySem.W.Frag) : Sp := fun vs H Q _ => ∃ (a : Addr) (ns : List Int), vs = [.ref a] ∧ SqL K H a (ns.map V.int) ∧ ns.length ≤ 63 ∧
  ∀ (st sc : Addr) (H' : Hp), Same H H' → H st = none → H sc = none → StOk H' st sc → Q (.ref st) H'
section
variable {P : Program} {w : World} {K : PySem.W.Frag} {mg : Str → Option Value} {base : Heap}
theorem ok_draw (T : Tops w K mg) : FnOk P w K mg base CX0 1 T.a__law_draw T.d__law_draw ["_law_state_here", "_law_many_here"] spDraw := by
  refine T.F__law_draw.ok sc_law_draw (fun vs H Q E h => ?_) (fun cdv A outer s H vs Q E hr h => ?_)
  · obtain ⟨st, sc, m, rfl, _⟩ := h
    rfl
  obtain ⟨st, sc, m, rfl, hm0, hm1, ⟨cs, i, d, c, z, h1, h2, hd0, hi0, hi, h63, hne⟩, q⟩ := h
  refine ⟨_, (pss_cons (ps_augS (pv 0) pe_int get_list pe_int ip_add set_list)
    (C8.pss_cut (ps_if (PW.pt (pw_and (pt_cmpR op_eq (pe_ix ix_list (pv 0) pe_int (fun _ _ => rfl)) pe_int (nomark _)) (pw_and1 (pt_cmpR op_lt (pe_ix ix_list (pv 0) pe_int (fun _ _ => rfl)) (pe_callB call_len rfl T.z_len PySem.boot_len (pa_cons (pe_ix ix_list (pv 0) pe_int (fun _ _ => rfl)) pa_nil)) (nomark _))))) (pss_cons (ps_set (i := 2) sc_law_draw.nd rfl (Or.inl rfl) (pe_ix ix_list (pe_ix ix_list (pv 0) pe_int (fun _ _ => rfl)) (pe_ix ix_list (pv 0) pe_int (fun _ _ => rfl)) (fun _ _ => rfl)))
    (pss_cons (ps_augS (pv 0) pe_int get_list pe_int ip_add set_list)
    (pss_one (ps_if (pt_cmpR op_ge (pe_callB call_abs rfl T.z_abs (by decide +kernel) (pa_cons (pv 2) pa_nil)) (pe_op op_pow pe_int pe_int) (nomark _)) (pss_one (ps_asg (pe_callB call_abs rfl T.z_abs (by decide +kernel) (pa_cons (pv 2) pa_nil)) (pg_sub (pv 0) pe_int set_list))) (pss_one (ps_asg (pe_op op_modN (pe_callTy call_int1 rfl T.z_int (by decide +kernel) (pa_cons (pe_op op_add (pe_op op_add (pe_op op_mul (pe_ix ix_list (pv 0) pe_int (fun _ _ => rfl)) pe_int) (pv 2)) pe_int) pa_nil)) pe_int) (pg_sub (pv 0) pe_int set_list))))))) pss_nil)
    (pss_cons (ps_if (pt_cmpR op_gt (pe_ix ix_list (pv 0) pe_int (fun _ _ => rfl)) pe_int (nomark _)) (pss_cons (ps_set (i := 3) sc_law_draw.nd rfl (Or.inl rfl) (pe_op op_modN (pe_callTy call_int1 rfl T.z_int (by decide +kernel) (pa_cons (pe_ix ix_list (pv 0) pe_int (fun _ _ => rfl)) pa_nil)) (pv 1)))
    (pss_cons (ps_asg (pe_op op_fdivW (pe_ix ix_list (pv 0) pe_int (fun _ _ => rfl)) (pv 1)) (pg_sub (pv 0) pe_int set_list))
    (pss_one (ps_ret (pv 3))))) pss_nil)
    (pss_cons (ps_set (i := 4) sc_law_draw.nd rfl (Or.inl rfl) (pe_op op_modN (pe_callTy call_int1 rfl T.z_int (by decide +kernel) (pa_cons (pe_op op_mul (pe_op op_add (pe_op op_add (pe_ix ix_list (pv 0) pe_int (fun _ _ => rfl)) (pe_op op_mul pe_int (pe_ix ix_list (pv 0) pe_int (fun _ _ => rfl)))) pe_int) pe_int) pa_nil)) pe_int))
    (pss_cons (ps_set (i := 5) sc_law_draw.nd rfl (Or.inl rfl) (pe_op op_modN (pe_callTy call_int1 rfl T.z_int (by decide +kernel) (pa_cons (pe_op op_mul (pv 4) (pe_op op_add (pe_op op_fdivW (pv 4) pe_int) pe_int)) pa_nil)) pe_int))
    (pss_cons (ps_set (i := 6) sc_law_draw.nd rfl (Or.inl rfl) (pe_op op_modN (pe_callTy call_int1 rfl T.z_int (by decide +kernel) (pa_cons (pe_op op_mul (pv 5) (pe_op op_add (pe_op op_fdivW (pv 5) pe_int) pe_int)) pa_nil)) pe_int))
    (pss_one (ps_ret (pe_op op_modN (pe_callTy call_int1 rfl T.z_int (by decide +kernel) (pa_cons (pe_op op_fdivW (pv 6) pe_int) pa_nil)) (pv 1)))))))))), ?_⟩
  -- state[3] += 1
  refine ⟨_, rfl, st, _, 3, _, rfl, rfl, SqL.of h1, rfl, _, _, rfl, rfl, st, _, _, 3, rfl, rfl, h1, rfl, ?_⟩
  have k1 : Keep st H (upd H st (.lst (stL sc i d (c + 1) z))) := Keep.upd
  have e1 : upd H st (.lst (stL sc i d (c + 1) z)) st = some (.lst (stL sc i d (c + 1) z)) := upd_same
  have e2 : upd H st (.lst (stL sc i d (c + 1) z)) sc = some (.lst (cs.map V.int)) := k1 _ _ hne h2
  show C8.tCut _ _ _ _ (upd H st (.lst (stL sc i d (c + 1) z)))
  refine ⟨fun σ' H' => ∃ (v : Option V) (i' d' z' : Int), σ' = [some (.ref st), some (.int m), v, none, none, none, none] ∧
    H' = upd H st (.lst (stL sc i' d' (c + 1) z')) ∧ 0 ≤ d' ∧ 0 ≤ i' ∧ i' ≤ cs.length, ?_, ?_⟩
  · -- if state[2] == 0 and state[1] < len(state[0])
    refine ⟨_, rfl, st, _, 2, _, rfl, rfl, SqL.of e1, rfl, rfl, _, rfl, ?_⟩
    refine ite2 (fun c1 => ?_) (fun _ => iteF ⟨none, i, d, z, rfl, rfl, hd0, hi0, hi⟩)
    refine ⟨_, rfl, st, _, 1, _, rfl, rfl, SqL.of e1, rfl, _, rfl, st, _, 0, _, rfl, rfl, SqL.of e1, rfl, _, (cs.map V.int).length, rfl, .inl ⟨_, SqL.of e2, rfl⟩, _, _, rfl, rfl, _, rfl, ?_⟩
    refine ite2 (fun c2 => ?_) (fun _ => ⟨none, i, d, z, rfl, rfl, hd0, hi0, hi⟩)
    have hlt : i.toNat < cs.length := by
      have := of_decide_eq_true c2
      rw [List.length_map] at this
      omega
    have hat : atI (cs.map V.int) i = some (V.int cs[i.toNat]) := by
      have : atI (cs.map V.int) ((i.toNat : Nat) : Int) = some (V.int cs[i.toNat]) := atI_nat (by rw [List.getElem?_map, List.getElem?_eq_getElem hlt]; rfl)
      rwa [show ((i.toNat : Nat) : Int) = i by omega] at this
    -- cell = state[0][state[1]]; state[1] += 1
    refine ⟨_, rfl, st, _, 0, _, rfl, rfl, SqL.of e1, rfl, _, rfl, st, _, 1, _, rfl, rfl, SqL.of e1, rfl, sc, _, i, V.int cs[i.toNat], rfl, rfl, SqL.of e2, hat, ?_⟩
    refine ⟨_, rfl, st, _, 1, _, rfl, rfl, SqL.of e1, rfl, _, _, rfl, rfl, st, _, _, 1, rfl, rfl, e1, rfl, ?_⟩
    rw [upd_upd]
    have e3 : upd H st (.lst (stL sc (i + 1) d (c + 1) z)) st = some (.lst (stL sc (i + 1) d (c + 1) z)) := upd_same
    rw [show upd H st (.lst ((stL sc i d (c + 1) z).set 1 (V.int ((fun i j => i + j) i 1)))) = upd H st (.lst (stL sc (i + 1) d (c + 1) z)) from rfl]
    -- if abs(cell) >= 10 ** 18
    refine ⟨_, rfl, _, rfl, _, _, rfl, rfl, ⟨by decide, by decide, by decide⟩, _, _, rfl, rfl, _, rfl, ?_⟩
    refine ite2 (fun _ => ?_) (fun _ => ?_)
    · refine ⟨_, rfl, _, rfl, _, rfl, st, _, 2, 2, rfl, rfl, e3, rfl, ?_⟩
      rw [upd_upd]
      exact ⟨_, i + 1, _, z, rfl, rfl, by split <;> omega, by omega, by omega⟩
    · refine ⟨_, rfl, st, _, 4, _, rfl, rfl, SqL.of e3, rfl, _, _, rfl, rfl, .inr ⟨by decide, by decide⟩, _, rfl, _, _, rfl, rfl, _, _, rfl, rfl, .inl ⟨_, rfl, ?_⟩⟩
      refine ⟨_, _, rfl, rfl, (by show (2147483647 : Int) ≠ 0; decide), _, rfl, st, _, 4, 4, rfl, rfl, e3, rfl, ?_⟩
      rw [upd_upd]
      exact ⟨_, i + 1, _, _, rfl, rfl, hd0, by omega, by omega⟩
  · rintro σ' H' ⟨v, i', d', z', rfl, rfl, hd', hi0', hi'⟩
    have e3 : upd H st (.lst (stL sc i' d' (c + 1) z')) st = some (.lst (stL sc i' d' (c + 1) z')) := upd_same
    have e4 : ∀ i2 d2 c2 z2, upd H st (.lst (stL sc i2 d2 c2 z2)) sc = some (.lst (cs.map V.int)) := fun i2 d2 c2 z2 => by rw [upd_ne hne]; exact h2
    have fin : ∀ (r : Int) (d2 : Int), 0 ≤ d2 → 0 ≤ r → r < m → Q (.int r) (upd H st (.lst (stL sc i' d2 (c + 1) z'))) := fun r d2 h0 hr0 hr1 =>
      q r _ hr0 hr1 Keep.upd ⟨cs, i', d2, c + 1, z', upd_same, e4 _ _ _ _, h0, hi0', hi', h63, hne⟩ ⟨_, rfl⟩
    -- if state[2] > 0
    refine ⟨_, rfl, st, _, 2, _, rfl, rfl, SqL.of e3, rfl, _, _, rfl, rfl, _, rfl, ?_⟩
    refine ite2 (fun _ => ?_) (fun _ => ?_)
    · refine ⟨_, rfl, st, _, 2, _, rfl, rfl, SqL.of e3, rfl, .inl ⟨_, rfl, _, rfl, _, _, rfl, rfl, by omega, ?_⟩⟩
      refine ⟨_, rfl, st, _, 2, _, rfl, rfl, SqL.of e3, rfl, _, rfl, _, _, rfl, rfl, wide_div (b := 64) hm0 (by omega) (by decide) (by decide), ?_⟩
      refine ⟨_, rfl, st, _, 2, 2, rfl, rfl, e3, rfl, ?_⟩
      rw [upd_upd]
      refine ⟨_, rfl, fin _ _ (Int.ediv_nonneg hd' (Int.le_of_lt hm0)) ?_ ?_⟩
      · rw [Int.fmod_eq_emod_of_nonneg _ (Int.le_of_lt hm0)]; exact Int.emod_nonneg _ (by omega)
      · rw [Int.fmod_eq_emod_of_nonneg _ (Int.le_of_lt hm0)]; exact Int.emod_lt_of_pos _ hm0
    · -- one, two, three
      refine ⟨_, rfl, st, _, 4, _, rfl, rfl, SqL.of e3, rfl, _, rfl, st, _, 3, _, rfl, rfl, SqL.of e3, rfl, _, _, rfl, rfl, .inl ⟨by decide, by decide⟩, _, _, rfl, rfl, _, _, rfl, rfl, _, _, rfl, rfl, .inr ⟨by decide, by decide⟩, .inl ⟨_, rfl, _, _, rfl, rfl, (by show (2147483647 : Int) ≠ 0; decide), ?_⟩⟩
      dsimp only
      generalize hx : Int.fmod ((z' + 7919 * (c + 1) + 1) * 48271) 2147483647 = one
      have o0 : 0 ≤ one ∧ one < 2147483647 := by
        rw [← hx, Int.fmod_eq_emod_of_nonneg _ (by decide)]
        exact ⟨Int.emod_nonneg _ (by decide), Int.emod_lt_of_pos _ (by decide)⟩
      refine ⟨_, rfl, _, rfl, _, _, rfl, rfl, wide_div (b := 64) (by decide) (by decide) (by decide) (by decide), _, _, rfl, rfl, _, _, rfl, rfl, .inl ⟨by omega, by omega⟩, .inl ⟨_, rfl, _, _, rfl, rfl, (by show (2147483647 : Int) ≠ 0; decide), ?_⟩⟩
      dsimp only
      generalize hy : Int.fmod (one * (one / 1009 + 69621)) 2147483647 = two
      have t0 : 0 ≤ two ∧ two < 2147483647 := by
        rw [← hy, Int.fmod_eq_emod_of_nonneg _ (by decide)]
        exact ⟨Int.emod_nonneg _ (by decide), Int.emod_lt_of_pos _ (by decide)⟩
      refine ⟨_, rfl, _, rfl, _, _, rfl, rfl, wide_div (b := 64) (by decide) (by decide) (by decide) (by decide), _, _, rfl, rfl, _, _, rfl, rfl, .inl ⟨by omega, by omega⟩, .inl ⟨_, rfl, _, _, rfl, rfl, (by show (2147483399 : Int) ≠ 0; decide), ?_⟩⟩
      refine ⟨_, rfl, _, _, rfl, rfl, wide_div (b := 64) (by decide) (by decide) (by decide) (by decide), .inl ⟨_, rfl, _, rfl, _, _, rfl, rfl, by omega, ?_⟩⟩
      refine fin _ _ hd' ?_ ?_
      · rw [Int.fmod_eq_emod_of_nonneg _ (Int.le_of_lt hm0)]; exact Int.emod_nonneg _ (by omega)
      · rw [Int.fmod_eq_emod_of_nonneg _ (Int.le_of_lt hm0)]; exact Int.emod_lt_of_pos _ hm0
end
end K68
namespace K68
open PySem PySem.Spec PyProof.Rows L2 Td
/-! ### the letters -/
def abc : Str := "abcdefghijklmnopqrstuvwxyz"
theorem abc_list : abc.cps.toList = List.range' 97 26 := by decide +kernel
theorem abc_len : abc.length ≤ sizeLine := by
  rw [show abc.length = 26 by decide +kernel]; decide
theorem abc_at {i : Int} (h0 : 0 ≤ i) (h1 : i < 26) : atI abc.cps.toList i = some (97 + i.toNat) := by
  have : atI abc.cps.toList ((i.toNat : Nat) : Int) = some (97 + i.toNat) := atI_nat (by
    rw [abc_list, List.getElem?_range' (by omega), Nat.one_mul])
  rwa [show ((i.toNat : Nat) : Int) = i by omega] at this
theorem add_len (z : Str) (c : Nat) : (z ++ (⟨#[c]⟩ : Str)).length = z.length + 1 := by
  show (z.cps ++ #[c]).size = z.cps.size + 1
  simp
theorem add_low {z : Str} {c : Nat} (h : z.cps.toList.all lowc = true) (hc : lowc c = true) : (z ++ (⟨#[c]⟩ : Str)).cps.toList.all lowc = true := by
  show (z.cps ++ #[c]).toList.all lowc = true
  simp [List.all_append] at h ⊢
  exact ⟨h, hc⟩
theorem add_old {z : Str} {c j x : Nat} (h : z.cps[j]? = some x) : (z ++ (⟨#[c]⟩ : Str)).cps[j]? = some x := by
  show (z.cps ++ #[c])[j]? = some x
  have := (Array.getElem?_eq_some_iff.mp h).1
  rw [Array.getElem?_append_left this]; exact h
theorem add_new (z : Str) (c : Nat) : (z ++ (⟨#[c]⟩ : Str)).cps[z.length]? = some c := by
  show (z.cps ++ #[c])[z.cps.size]? = some c
  simp
theorem low_of {i : Int} (h0 : 0 ≤ i) (h1 : i < 26) : lowc (97 + i.toNat) = true := by
  unfold lowc
  simp
  omega
/-- what the names of one drawing have in common: at the place p stands the k-th letter -/
def letK (first k : Nat) : Nat := 97 + (first + 7 * k) % 26
structure NamesAt (p first : Nat) (ns : List Str) : Prop where
  good : ∀ z ∈ ns, isNm z = true
  at_ : ∀ (j : Nat) (z : Str), ns[j]? = some z → z.cps[p]? = some (letK first j)
theorem NamesAt.nodup {p first : Nat} {ns : List Str} (h : NamesAt p first ns) (hl : ns.length ≤ 26) : ns.Nodup := by
  rw [List.Nodup, List.pairwise_iff_getElem]
  intro i j hi hj hij e3
  have e1 := h.at_ i ns[i] (List.getElem?_eq_getElem hi)
  have e2 := h.at_ j ns[j] (List.getElem?_eq_getElem hj)
  rw [e3, e2] at e1
  have := Option.some.inj e1
  unfold letK at this
  omega
theorem NamesAt.snoc {p first : Nat} {ns : List Str} {z : Str} (h : NamesAt p first ns) (hz : isNm z = true) (ha : z.cps[p]? = some (letK first ns.length)) : NamesAt p first (ns ++ [z]) := by
  refine ⟨fun y hy => ?_, fun j y hy => ?_⟩
  · rcases List.mem_append.mp hy with q | q
    · exact h.good y q
    · rw [List.mem_singleton.mp q]; exact hz
  · by_cases hj : j < ns.length
    · rw [List.getElem?_append_left hj] at hy
      exact h.at_ j y hy
    · rw [List.getElem?_append_right (by omega)] at hy
      have : j = ns.length := by
        rcases Nat.lt_or_ge 0 (j - ns.length) with c | c
        · rw [List.getElem?_eq_none (by simp; omega)] at hy; cases hy
        · omega
      subst this
      simp at hy
      rw [← hy]; exact ha
def spNames : Sp := fun vs H Q _ => ∃ (st sc : Addr) (n : Int), vs = [.ref st, .int n] ∧ 0 ≤ n ∧ n ≤ 20 ∧ StOk H st sc ∧
  ∀ (p : Addr) (ns : List Str) (H' : Hp), Keep st H H' → StOk H' st sc → H p = none → p ≠ st → p ≠ sc → H' p = some (.lst (ns.map V.str)) → (ns.length : Int) = n → Names ns → Q (.ref p) H'
theorem StOk.at {H : Hp} {st sc : Addr} (h : StOk H st sc) : ∃ L, H st = some (.lst L) := by
  obtain ⟨cs, i, d, c, s, h1, _⟩ := h
  exact ⟨_, h1⟩
theorem StOk.scat {H : Hp} {st sc : Addr} (h : StOk H st sc) : ∃ L, H sc = some (.lst L) := by
  obtain ⟨cs, i, d, c, s, h1, h2, _⟩ := h
  exact ⟨_, h2⟩
theorem StOk.other {H : Hp} {st sc p : Addr} {o : HO} (h : StOk H st sc) (hp : p ≠ st) (hq : p ≠ sc) : StOk (upd H p o) st sc := by
  obtain ⟨cs, i, d, c, s, h1, h2, r⟩ := h
  exact ⟨cs, i, d, c, s, by rw [upd_ne (Ne.symm hp)]; exact h1, by rw [upd_ne (Ne.symm hq)]; exact h2, r⟩
theorem StOk.ne {H : Hp} {st sc p : Addr} (h : StOk H st sc) (hp : H p = none) : p ≠ st ∧ p ≠ sc := by
  obtain ⟨L, h1⟩ := h.at
  obtain ⟨M, h2⟩ := h.scat
  exact ⟨Ne.symm (ne_of_none h1 hp), Ne.symm (ne_of_none h2 hp)⟩
theorem StOk.new {H : Hp} {st sc p : Addr} {o : HO} (h : StOk H st sc) (hp : H p = none) : StOk (upd H p o) st sc :=
  h.other (h.ne hp).1 (h.ne hp).2
section
variable {P : Program} {w : World} {K : PySem.W.Frag} {mg : Str → Option Value} {base : Heap}
theorem ok_state (T : Tops w K mg) : FnOk P w K mg base CX0 1 T.a__law_state T.d__law_state ["_law_script"] (spState K) := by
  refine T.F__law_state.ok sc_law_state (fun vs H Q E h => ?_) (fun cdv A outer s H vs Q E hr h => ?_)
  · obtain ⟨a, ns, rfl, _⟩ := h
    rfl
  obtain ⟨a, ns, rfl, hS, hl, q⟩ := h
  refine ⟨_, (pss_one (ps_ret (pe_lst (pa_cons (pe_callTy call_list_of rfl T.z_list (by decide +kernel) (pa_cons (pe_slice sl_list (pv 0) po_none (po_some pe_int)) pa_nil)) (pa_cons pe_int (pa_cons pe_int (pa_cons pe_int (pa_cons pe_int pa_nil)))))))), ?_⟩
  have hcut : cutV (ns.map V.int) none (some 63) = ns.map V.int := by
    unfold cutV
    rw [HT.sIx_none, show HT.sIx (ns.map V.int).length (ns.map V.int).length (some 63) = min 63 (ns.map V.int).length from HT.sIx_nat _ _ 63]
    rw [List.drop_zero, List.take_of_length_le (by rw [List.length_map]; omega)]
  refine ⟨_, rfl, 63, rfl, a, _, rfl, hS, fun p hp => ⟨p, _, rfl, .inl (SqL.of upd_same), fun l hl2 => ⟨by show 5 ≤ sizeLine; decide, fun st hst => ?_⟩⟩⟩
  rw [hcut] at hl2 hst ⊢
  have npl : p ≠ l := fun e => by rw [e, upd_same] at hl2; cases hl2
  have hl0 : H l = none := by rw [upd_ne (Ne.symm npl)] at hl2; exact hl2
  have nls : l ≠ st := fun e => by rw [e, upd_same] at hst; cases hst
  have hst2 : H st = none := by
    rw [upd_ne (Ne.symm nls)] at hst
    by_cases c : st = p
    · rw [c, upd_same] at hst; cases hst
    · rw [upd_ne c] at hst; exact hst
  refine q st l _ (fun b o e => ?_) hst2 hl0 ⟨ns, 0, 0, 0, 1, upd_same, by rw [upd_ne nls, upd_same], by decide, by decide, by omega, hl, nls⟩
  rw [upd_ne (ne_of_none e hst2), upd_ne (ne_of_none e hl0), upd_ne (ne_of_none e hp)]
  exact e
theorem ok_names (T : Tops w K mg) (G__law_draw : FnOk P w K mg base CX0 1 T.a__law_draw T.d__law_draw ["_law_state_here", "_law_many_here"] spDraw) :
    FnOk P w K mg base CX0 2 T.a__law_names T.d__law_names ["_law_state_here", "_law_many_here"] spNames := by
  refine T.F__law_names.ok sc_law_names (fun vs H Q E h => ?_) (fun cdv A outer s H vs Q E hr h => ?_)
  · obtain ⟨st, sc, m, rfl, _⟩ := h
    rfl
  obtain ⟨st, sc, n, rfl, hn0, hn1, hst, q⟩ := h
  refine ⟨_, (pss_cons (ps_set (i := 2) sc_law_names.nd rfl (Or.inl rfl) (pe_call G__law_draw (hr.mono (by omega)) rfl T.m__law_draw T.F__law_draw.kp T.b__law_draw .nil pass0 (pa_cons (pv 0) (pa_cons pe_int pa_nil))))
    (pss_cons (ps_set (i := 3) sc_law_names.nd rfl (Or.inl rfl) (pe_call G__law_draw (hr.mono (by omega)) rfl T.m__law_draw T.F__law_draw.kp T.b__law_draw .nil pass0 (pa_cons (pv 0) (pa_cons pe_int pa_nil))))
    (pss_cons (ps_set (i := 4) sc_law_names.nd rfl (Or.inl rfl) (pe_call G__law_draw (hr.mono (by omega)) rfl T.m__law_draw T.F__law_draw.kp T.b__law_draw .nil pass0 (pa_cons (pv 0) (pa_cons pe_int pa_nil))))
    (pss_cons (ps_set (i := 5) sc_law_names.nd rfl (Or.inl rfl) (pe_call G__law_draw (hr.mono (by omega)) rfl T.m__law_draw T.F__law_draw.kp T.b__law_draw .nil pass0 (pa_cons (pv 0) (pa_cons (pe_op op_pow pe_int pe_int) pa_nil))))
    (pss_cons (ps_set (i := 6) sc_law_names.nd rfl (Or.inl rfl) pe_str)
    (pss_cons (ps_set (i := 7) sc_law_names.nd rfl (Or.inl rfl) (pe_lst pa_nil))
    (pss_cons (ps_for PassesOwn.never rfl (pi_range1 rfl T.z_range (pa_cons (pv 1) pa_nil)) (pg_name (i := 8) sc_law_names.nd rfl (Or.inl rfl)) (pss_cons (ps_set (i := 9) sc_law_names.nd rfl (Or.inl rfl) (pv 5))
    (pss_cons (ps_set (i := 10) sc_law_names.nd rfl (Or.inl rfl) (pe_op op_add (pv 2) pe_int))
    (C8.pss_cut (ps_if (pt_cmpR op_eq (pv 4) pe_int (nomark _)) (pss_cons (ps_set (i := 9) sc_law_names.nd rfl (Or.inl rfl) (pe_call G__law_draw (hr.mono (by omega)) rfl T.m__law_draw T.F__law_draw.kp T.b__law_draw .nil pass0 (pa_cons (pv 0) (pa_cons (pe_op op_pow pe_int pe_int) pa_nil))))
    (pss_one (ps_set (i := 10) sc_law_names.nd rfl (Or.inl rfl) (pe_op op_add (pe_op op_add (pv 2) pe_int) (pe_call G__law_draw (hr.mono (by omega)) rfl T.m__law_draw T.F__law_draw.kp T.b__law_draw .nil pass0 (pa_cons (pv 0) (pa_cons (pe_op op_sub pe_int (pv 2)) pa_nil))))))) pss_nil)
    (pss_cons (ps_set (i := 11) sc_law_names.nd rfl (Or.inl rfl) pe_str)
    (pss_cons (ps_for PassesOwn.never rfl (pi_range1 rfl T.z_range (pa_cons (pv 10) pa_nil)) (pg_name (i := 12) sc_law_names.nd rfl (Or.inl rfl)) (pss_one (ps_if (pt_cmpR op_eq (pv 12) (pv 2) (nomark _)) (pss_one (ps_set (i := 11) sc_law_names.nd rfl (Or.inl rfl) (pe_op op_add_str (pv 11) (pe_ix ix_str (pv 6) (pe_op op_modN (pe_callTy call_int1 rfl T.z_int (by decide +kernel) (pa_cons (pe_op op_add (pv 3) (pe_op op_mul pe_int (pv 8))) pa_nil)) pe_int) (fun _ _ => rfl))))) (pss_cons (ps_set (i := 11) sc_law_names.nd rfl (Or.inl rfl) (pe_op op_add_str (pv 11) (pe_ix ix_str (pv 6) (pe_op op_modN (pe_callTy call_int1 rfl T.z_int (by decide +kernel) (pa_cons (pv 9) pa_nil)) pe_int) (fun _ _ => rfl))))
    (pss_one (ps_set (i := 9) sc_law_names.nd rfl (Or.inl rfl) (pe_op op_fdivW (pv 9) pe_int)))))))
    (pss_one (ps_expr (pe_bm PySem.F.plainAttrs_list PySem.F.slot_list_append PySem.F.type_list_append mt_append (pv 7) (pa_cons (pv 11) pa_nil))))))))))
    (pss_one (ps_ret (pv 7)))))))))), ?_⟩
  refine ⟨_, rfl, st, sc, 8, rfl, by decide, by decide, hst, fun pl H1 pl0 pl1 k1 s1 _ => ?_⟩
  refine ⟨_, rfl, st, sc, 26, rfl, by decide, by decide, s1, fun fi H2 fi0 fi1 k2 s2 _ => ?_⟩
  refine ⟨_, rfl, st, sc, 2, rfl, by decide, by decide, s2, fun sh H3 sh0 sh1 k3 s3 _ => ?_⟩
  refine ⟨_, rfl, _, _, rfl, rfl, ⟨by decide, by decide, by decide⟩, st, sc, _, rfl, by decide, by decide, s3, fun ba H4 ba0 ba1 k4 s4 _ => ?_⟩
  have k04 : Keep st H H4 := k1.trans (k2.trans (k3.trans k4))
  refine ⟨Nat.zero_le _, fun p hp => ?_⟩
  obtain ⟨nps, npc⟩ := s4.ne hp
  have hp0 : H p = none := k04.free nps hp
  refine ⟨_, rfl, n, rfl, by omega, by omega, for_range (lo := 0) (n := n.toNat) (fun i σ H' => ∃ (v8 v9 v10 v11 v12 : Option V) (ns : List Str),
    σ = [some (.ref st), some (.int n), some (.int pl), some (.int fi), some (.int sh), some (.int ba), some (.str abc), some (.ref p), v8, v9, v10, v11, v12] ∧
    Keep st H H' ∧ StOk H' st sc ∧ H' p = some (.lst (ns.map V.str)) ∧ ns.length = i ∧ NamesAt pl.toNat fi.toNat ns)
    ⟨none, none, none, none, none, [], rfl, k04.trans (Keep.new hp), s4.new hp, upd_same, rfl, ⟨fun z h => (List.not_mem_nil h).elim, fun j z h => by simp at h⟩⟩ ?_ ?_⟩
  · rintro i σ H' hi ⟨v8, v9, v10, v11, v12, ns, rfl, kH, sH, hpH, hlen, hN⟩
    refine ⟨_, rfl, _, rfl, _, _, rfl, rfl, ?_⟩
    refine ⟨fun σ' H'' => ∃ (o sz : Int), σ' = [some (.ref st), some (.int n), some (.int pl), some (.int fi), some (.int sh), some (.int ba), some (.str abc), some (.ref p), some (.int (0 + i)), some (.int o), some (.int sz), v11, v12] ∧
      Keep st H H'' ∧ StOk H'' st sc ∧ H'' p = some (.lst (ns.map V.str)) ∧ 0 ≤ o ∧ pl + 1 ≤ sz ∧ sz ≤ 8, ?_, ?_⟩
    · refine ⟨_, rfl, rfl, _, rfl, ?_⟩
      refine ite2 (fun _ => ?_) (fun _ => ⟨ba, pl + 1, rfl, kH, sH, hpH, ba0, by omega, by omega⟩)
      refine ⟨_, rfl, _, _, rfl, rfl, ⟨by decide, by decide, by decide⟩, st, sc, _, rfl, by decide, by decide, sH, fun o H5 o0 o1 k5 s5 _ => ?_⟩
      refine ⟨_, rfl, _, _, rfl, rfl, _, rfl, _, rfl, _, _, rfl, rfl, st, sc, _, rfl, by omega, by omega, s5, fun sz H6 z0 z1 k6 s6 _ => ⟨_, _, rfl, rfl, ?_⟩⟩
      exact ⟨o, _, rfl, kH.trans (k5.trans k6), s6, k6 _ _ nps (k5 _ _ nps hpH), o0, by omega, by omega⟩
    · rintro σ' H'' ⟨o, sz, rfl, kJ, sJ, hpJ, o0, sz0, sz1⟩
      -- name = ''; for at in range(size)
      refine ⟨_, rfl, sz, rfl, by omega, by omega, for_range (lo := 0) (n := sz.toNat) (fun j σ H5 => ∃ (o : Int) (z : Str) (v12 : Option V),
        σ = [some (.ref st), some (.int n), some (.int pl), some (.int fi), some (.int sh), some (.int ba), some (.str abc), some (.ref p), some (.int (0 + i)), some (.int o), some (.int sz), some (.str z), v12] ∧
        H5 = H'' ∧ 0 ≤ o ∧ z.length = j ∧ z.cps.toList.all lowc = true ∧ (pl.toNat < j → z.cps[pl.toNat]? = some (letK fi.toNat i)))
        ⟨o, "", v12, rfl, rfl, o0, by decide +kernel, by decide +kernel, fun h => by omega⟩ ?_ ?_⟩
      · rintro j σ H5 hj ⟨o, z, v12, rfl, rfl, o0, zl, za, zp⟩
        have zsz : z.length + 1 ≤ sizeLine := Nat.le_of_lt (small1000 (by omega))
        refine ⟨_, rfl, _, rfl, rfl, _, rfl, ?_⟩
        refine ite2 (fun c => ?_) (fun c => ?_)
        · have c' : (V.int (0 + (j : Int))) = V.int pl := of_decide_eq_true c
          have cj : (0 : Int) + (j : Int) = pl := by injection c'
          have m0 : 0 ≤ Int.fmod (fi + 7 * (0 + (i : Int))) 26 ∧ Int.fmod (fi + 7 * (0 + (i : Int))) 26 < 26 := by
            rw [Int.fmod_eq_emod_of_nonneg _ (by decide)]
            exact ⟨Int.emod_nonneg _ (by decide), Int.emod_lt_of_pos _ (by decide)⟩
          have mk : (Int.fmod (fi + 7 * (0 + (i : Int))) 26).toNat = (fi.toNat + 7 * i) % 26 := by
            rw [Int.fmod_eq_emod_of_nonneg _ (by decide)]
            omega
          refine ⟨_, rfl, _, rfl, _, rfl, _, rfl, _, _, rfl, rfl, .inl ⟨by decide, by decide⟩, _, _, rfl, rfl, .inl ⟨_, rfl, _, _, rfl, rfl, (by show (26 : Int) ≠ 0; decide), abc, _, _, rfl, rfl, abc_len, abc_at m0.1 m0.2, _, _, rfl, rfl, zsz, ?_⟩⟩
          refine ⟨o, _, _, rfl, rfl, o0, by rw [add_len, zl], add_low za (low_of m0.1 m0.2), fun _ => ?_⟩
          have hz : z.length = pl.toNat := by omega
          have e := add_new z (97 + (Int.fmod (fi + 7 * (0 + (i : Int))) 26).toNat)
          rw [hz, mk] at e
          unfold letK
          rw [mk]
          exact e
        · have m0 : 0 ≤ Int.fmod o 26 ∧ Int.fmod o 26 < 26 := by
            rw [Int.fmod_eq_emod_of_nonneg _ (by decide)]
            exact ⟨Int.emod_nonneg _ (by decide), Int.emod_lt_of_pos _ (by decide)⟩
          refine ⟨_, rfl, _, rfl, _, rfl, .inl ⟨_, rfl, _, _, rfl, rfl, (by show (26 : Int) ≠ 0; decide), abc, _, _, rfl, rfl, abc_len, abc_at m0.1 m0.2, _, _, rfl, rfl, zsz, ?_⟩⟩
          refine ⟨_, rfl, _, _, rfl, rfl, wide_div (b := 64) (by decide) (by decide) (by decide) (by decide), ?_⟩
          refine ⟨o / 26, _, _, rfl, rfl, Int.ediv_nonneg o0 (by decide), by rw [add_len, zl], add_low za (low_of m0.1 m0.2), fun hlt => ?_⟩
          have hne : ¬ (V.int (0 + (j : Int)) = V.int pl) := of_decide_eq_false (Bool.eq_false_iff.mpr c)
          have hne2 : ¬ ((0 : Int) + (j : Int) = pl) := fun e => hne (by rw [e])
          exact add_old (zp (by omega))
      · rintro σ H5 ⟨o, z, v12, rfl, rfl, o0, zl, za, zp⟩
        have hns : (ns.map V.str).length < sizeLine := small1000 (by rw [List.length_map]; omega)
        refine ⟨_, rfl, .inl ⟨rfl, _, SqL.of hpJ⟩, _, rfl, p, _, _, rfl, rfl, hpJ, hns, ?_⟩
        have hnm : isNm z = true := by
          unfold isNm
          rw [za, zl]
          simp
          omega
        refine ⟨_, _, _, _, _, ns ++ [z], rfl, kJ.own hp0, sJ.other nps npc, ?_, ?_, ?_⟩
        · rw [upd_same, List.map_append]; rfl
        · rw [List.length_append, hlen]; rfl
        · exact hN.snoc hnm (by rw [hlen]; exact zp (by omega))
  · rintro σ H' ⟨v8, v9, v10, v11, v12, ns, rfl, kH, sH, hpH, hlen, hN⟩
    refine ⟨_, rfl, q p ns H' kH sH hp0 nps npc hpH (by omega) ⟨hN.good, hN.nodup (by omega)⟩⟩
end
end K68
namespace K68
open PySem PySem.Spec PyProof.Rows L2 Td
/-- all rows, counted at all depths; n: how deep it may still go -/
def spMany (K : PySem.W.Frag) (n : Nat) : Sp := fun vs H Q _ => ∃ (v : V) (rs : List Td.Row) (S : Sc) (dep : Nat),
  vs = [v] ∧ Dp K H v (.tuple (rowsD rs)) ∧ okRs S dep rs ∧ dep ≤ 4 ∧ 5 ≤ dep + n ∧ Q (.int (cnts rs : Nat)) H
section
variable {P : Program} {w : World} {K : PySem.W.Frag} {mg : Str → Option Value} {base : Heap}
theorem ok_many1 (T : Tops w K mg) {n : Nat} (G__law_many : FnOk P w K mg base CX0 n T.a__law_many T.d__law_many ["_law_rows_here"] (spMany K n)) :
    FnOk P w K mg base CX0 (n + 1) T.a__law_many T.d__law_many ["_law_rows_here"] (spMany K (n + 1)) := by
  refine T.F__law_many.ok sc_law_many (fun vs H Q E h => ?_) (fun cdv A outer s H vs Q E hr h => ?_)
  · obtain ⟨v, rs, S, dep, rfl, _⟩ := h
    rfl
  obtain ⟨v, rs, S, dep, rfl, hD, ok, hdep, hn, q⟩ := h
  obtain ⟨a, xs, rfl, hS, hl, hx⟩ := rows_at hD
  refine ⟨_, (pss_cons (ps_set (i := 1) sc_law_many.nd rfl (Or.inl rfl) (pe_callB call_len rfl T.z_len PySem.boot_len (pa_cons (pv 0) pa_nil)))
    (pss_cons (ps_for PassesOwn.never rfl (pi_tup (pv 0)) (pg_name (i := 2) sc_law_many.nd rfl (Or.inl rfl)) (pss_one (ps_if (pt_cmpR op_eq (pe_ix ix_tup (pv 2) pe_int (fun _ _ => rfl)) pe_str (nomark _)) (pss_one (ps_aug (i := 1) sc_law_many.nd rfl (Or.inl rfl) (pe_op op_add (pe_call G__law_many (hr.mono (by omega)) rfl T.m__law_many T.F__law_many.kp T.b__law_many .nil pass0 (pa_cons (pe_ix ix_tup (pv 2) pe_int (fun _ _ => rfl)) pa_nil)) (pe_call G__law_many (hr.mono (by omega)) rfl T.m__law_many T.F__law_many.kp T.b__law_many .nil pass0 (pa_cons (pe_ix ix_tup (pv 2) pe_int (fun _ _ => rfl)) pa_nil))) ip_add)) pss_nil)))
    (pss_one (ps_ret (pv 1))))), ?_⟩
  refine ⟨_, rfl, _, _, rfl, .inr ⟨_, hS, rfl⟩, ?_⟩
  refine ⟨_, rfl, a, rfl, ⟨_, hS⟩, for_tup (K := K) (a := a) (xs := xs) (fun i σ H' => ∃ (v2 : Option V), H' = H ∧
    σ = [some (.ref a), some (.int ((cnts (rs.take i) + (rs.length - i) : Nat) : Int)), v2])
    ⟨none, rfl, ?_⟩ (fun i σ H' _ ⟨_, e, _⟩ => by rw [e]; exact hS) ?_ ?_⟩
  · show [some (V.ref a), some (V.int (xs.length : Nat)), none] = _
    rw [hl]
    simp [cnts]
  · rintro i x σ H' hi ⟨v2, rfl, rfl⟩
    obtain ⟨r, hr2, hDr⟩ := hx i x hi
    have hil : i < rs.length := (List.getElem?_eq_some_iff.mp hr2).1
    have okr := okRs_get ok hr2
    have step := cnts_take hr2
    have hp := cnt_pos r
    cases hite : isIte r with
    | false =>
      obtain ⟨ar, ys, rfl, hSr, h0⟩ := row_at hDr
      refine ⟨_, rfl, ar, _, 0, _, rfl, rfl, hSr, atI_nat (j := 0) h0, rfl, _, rfl, ?_⟩
      refine if_false_of ((tag_if r).trans hite) ⟨some (.ref ar), rfl, ?_⟩
      have hc := cnt_flat hite
      have e : cnts (rs.take i) + (rs.length - i) = cnts (rs.take (i + 1)) + (rs.length - (i + 1)) := by omega
      rw [← e]; rfl
    | true =>
      cases r with
      | ite sl wd y n' =>
        obtain ⟨ar, vy, vn, rfl, hSr, hy, hn'⟩ := ite_at hDr
        unfold okR at okr
        obtain ⟨hd3, _, _, oy, on⟩ := okr
        refine ⟨_, rfl, ar, _, 0, _, rfl, rfl, hSr, rfl, rfl, _, rfl, ?_⟩
        refine if_true_of (by decide +kernel) ?_
        refine ⟨_, rfl, _, rfl, ar, _, 3, _, rfl, rfl, hSr, rfl, vy, y, S, dep + 1, rfl, hy, oy, by omega, by omega, ?_⟩
        refine ⟨_, rfl, ar, _, 4, _, rfl, rfl, hSr, rfl, vn, n', S, dep + 1, rfl, hn', on, by omega, by omega, ?_⟩
        refine ⟨_, _, rfl, rfl, _, _, rfl, rfl, some (.ref ar), rfl, ?_⟩
        have ec : Td.cnt (.ite sl wd y n') = 1 + cnts y + cnts n' := by unfold Td.cnt; rfl
        have e : ((cnts (rs.take i) + (rs.length - i) : Nat) : Int) + ((cnts y : Nat) + (cnts n' : Nat)) = ((cnts (rs.take (i + 1)) + (rs.length - (i + 1)) : Nat) : Int) := by omega
        rw [← e]; rfl
      | _ => cases hite
  · rintro σ H' ⟨v2, rfl, rfl⟩
    refine ⟨_, rfl, ?_⟩
    rw [hl, List.take_length, Nat.sub_self, Nat.add_zero]
    exact q
theorem ok_many (T : Tops w K mg) : ∀ n, FnOk P w K mg base CX0 n T.a__law_many T.d__law_many ["_law_rows_here"] (spMany K n)
  | 0 => by
    have no : ∀ vs H Q E, ¬ spMany K 0 vs H Q E := fun vs H Q E h => by
      obtain ⟨_, _, _, dep, _, _, _, h1, h2, _⟩ := h
      omega
    exact ⟨fun vs H Q E h => absurd h (no vs H Q E), fun A outer s H args us vs Q E _ _ _ _ h => absurd h (no vs H Q E)⟩
  | n + 1 => ok_many1 T (ok_many T n)
end
end K68
namespace K68
open PySem PySem.Spec PyProof.Rows L2 Td
/-- the dict that says what a body may be, at d -/
structure ShapeAt (K : PySem.W.Frag) (st : Addr) (H : Hp) (d : Addr) (S : Sc) (slots : List Str) : Prop where
  ex : ∃ (kvs : List (Key × V)) (aw asl ac aso : Addr) (pk wr : Bool),
    H d = some (.dK kvs) ∧ kvs.length ≤ 100 ∧
    valV kvs (.inr "words") = some (.ref aw) ∧ SqT K H aw (S.words.map V.str) ∧ aw ≠ st ∧
    valV kvs (.inr "slots") = some (.ref asl) ∧ SqL K H asl (slots.map V.str) ∧ asl ≠ st ∧
    valV kvs (.inr "cells") = some (.ref ac) ∧ SqL K H ac (S.readable.map V.str) ∧ ac ≠ st ∧
    valV kvs (.inr "sources") = some (.ref aso) ∧ SqT K H aso (S.sources.map V.str) ∧ aso ≠ st ∧
    valV kvs (.inr "kind") = some (.str (if S.eff then "effects" else "derived")) ∧
    valV kvs (.inr "peeks") = some (.bl pk) ∧ valV kvs (.inr "writes") = some (.bl wr) ∧ (pk = true → S.eff = true) ∧ (wr = true → S.eff = true)
  ne : d ≠ st
  w0 : S.words ≠ []
  s0 : slots ≠ []
  c0 : S.readable ≠ []
  o0 : S.sources ≠ []
  small : S.words.length ≤ 100 ∧ slots.length ≤ 100 ∧ S.readable.length ≤ 100 ∧ S.sources.length ≤ 100
  good : ∀ z ∈ slots, isNm z = true
section
variable {K : PySem.W.Frag} {H H' : Hp} {st sc d : Addr} {S : Sc} {slots : List Str}
theorem ShapeAt.keep (h : ShapeAt K st H d S slots) (k : Keep st H H') : ShapeAt K st H' d S slots := by
  obtain ⟨kvs, aw, asl, ac, aso, pk, wr, e0, e00, e1, e2, e3, e4, e5, e6, e7, e8, e9, e10, e11, e12, r⟩ := h.ex
  exact ⟨⟨kvs, aw, asl, ac, aso, pk, wr, k _ _ h.ne e0, e00, e1, SqT.keep k e3 e2, e3, e4, SqL.keep k e6 e5, e6, e7, SqL.keep k e9 e8, e9, e10, SqT.keep k e12 e11, e12, r⟩, h.ne, h.w0, h.s0, h.c0, h.o0, h.small, h.good⟩
theorem dget_of {a : Addr} {kvs : List (Key × V)} {z : Str} {v : V} (e : H a = some (.dK kvs)) (h : valV kvs (.inr z) = some v) : DGet H a (.str z) (some v) := by
  rw [← h]; exact DGet.k (k := Sum.inr z) e
/-- an item, drawn -/
theorem pick {xs : List Str} {r : Int} (h0 : 0 ≤ r) (h1 : r < (xs.map V.str).length) : ∃ z ∈ xs, atI (xs.map V.str) r = some (.str z) := by
  rw [List.length_map] at h1
  have hl : r.toNat < xs.length := by omega
  refine ⟨xs[r.toNat], List.getElem_mem hl, ?_⟩
  have : atI (xs.map V.str) ((r.toNat : Nat) : Int) = some (V.str xs[r.toNat]) := atI_nat (by rw [List.getElem?_map, List.getElem?_eq_getElem hl]; rfl)
  rwa [show ((r.toNat : Nat) : Int) = r by omega] at this
def rLen (K : PySem.W.Frag) : List V → Hp → VK → Prop := fun xs H Q => ∃ x n, xs = [x] ∧ LenV K x H n ∧ Q (.int n) H
def tPick (K : PySem.W.Frag) (r : R2) (key : Str) : TE := tOp r (tDGet (tVar 1) (tC (.str key)))
  (tCall spDraw [] E0 (tCons (tVar 0) (tCons (tCB (rLen K) (tCons (tDGet (tVar 1) (tC (.str key))) tNil)) tNil)))
theorem pick_l {σ : L2.St} {Q : VK} {key : Str} {kvs : List (Key × V)} {a : Addr} {xs : List Str} (h0 : σ[0]? = some (some (.ref st))) (h1 : σ[1]? = some (some (.ref d)))
    (hd : H d = some (.dK kvs)) (nd : d ≠ st) (hv : valV kvs (.inr key) = some (.ref a)) (hS : SqL K H a (xs.map V.str)) (na : a ≠ st) (hx : xs ≠ []) (hl : xs.length ≤ 100) (ok : StOk H st sc)
    (q : ∀ z ∈ xs, ∀ H', Keep st H H' → StOk H' st sc → Q (.str z) H') : tPick K (rIxL K) key σ H Q := by
  have hp : 0 < xs.length := List.length_pos_iff.mpr hx
  refine ⟨_, h1, d, _, rfl, dget_of hd hv, _, h0, _, h1, d, _, rfl, dget_of hd hv, _, (xs.map V.str).length, rfl, .inl ⟨_, hS, rfl⟩, st, sc, _, rfl, ?_, ?_, ok, fun r H' r0 r1 k o _ => ?_⟩
  · rw [List.length_map]; omega
  · rw [List.length_map]; omega
  · obtain ⟨z, hz, e⟩ := pick r0 r1
    exact ⟨a, _, r, _, rfl, rfl, SqL.keep k na hS, e, q z hz H' k o⟩
theorem pick_t {σ : L2.St} {Q : VK} {key : Str} {kvs : List (Key × V)} {a : Addr} {xs : List Str} (h0 : σ[0]? = some (some (.ref st))) (h1 : σ[1]? = some (some (.ref d)))
    (hd : H d = some (.dK kvs)) (nd : d ≠ st) (hv : valV kvs (.inr key) = some (.ref a)) (hS : SqT K H a (xs.map V.str)) (na : a ≠ st) (hx : xs ≠ []) (hl : xs.length ≤ 100) (ok : StOk H st sc)
    (q : ∀ z ∈ xs, ∀ H', Keep st H H' → StOk H' st sc → Q (.str z) H') : tPick K (rIxT K) key σ H Q := by
  have hp : 0 < xs.length := List.length_pos_iff.mpr hx
  refine ⟨_, h1, d, _, rfl, dget_of hd hv, _, h0, _, h1, d, _, rfl, dget_of hd hv, _, (xs.map V.str).length, rfl, .inr ⟨_, hS, rfl⟩, st, sc, _, rfl, ?_, ?_, ok, fun r H' r0 r1 k o _ => ?_⟩
  · rw [List.length_map]; omega
  · rw [List.length_map]; omega
  · obtain ⟨z, hz, e⟩ := pick r0 r1
    exact ⟨a, _, r, _, rfl, rfl, SqT.keep k na hS, e, q z hz H' k o⟩
end
def spRow (K : PySem.W.Frag) : Sp := fun vs H Q _ => ∃ (st sc d : Addr) (S : Sc) (slots : List Str), vs = [.ref st, .ref d] ∧ StOk H st sc ∧ ShapeAt K st H d S slots ∧
  ∀ (v : V) (r : Td.Row) (H' : Hp), Keep st H H' → StOk H' st sc → (∀ dep, okR S dep r) → isIte r = false → Tn K H' v (rowD r) → Q v H'
section
variable {P : Program} {w : World} {K : PySem.W.Frag} {mg : Str → Option Value} {base : Heap}
theorem ok_row (T : Tops w K mg) (G__law_draw : FnOk P w K mg base CX0 1 T.a__law_draw T.d__law_draw ["_law_state_here", "_law_many_here"] spDraw) :
    FnOk P w K mg base CX0 2 T.a__law_row T.d__law_row ["_law_state_here", "_law_shape"] (spRow K) := by
  refine T.F__law_row.ok sc_law_row (fun vs H Q E h => ?_) (fun cdv A outer s H vs Q E hr h => ?_)
  · obtain ⟨st, sc, d, S, slots, rfl, _⟩ := h
    rfl
  obtain ⟨st, sc, d, S, slots, rfl, ok, sh, q⟩ := h
  refine ⟨_, (pss_cons (ps_set (i := 2) sc_law_row.nd rfl (Or.inl rfl) (pe_call G__law_draw (hr.mono (by omega)) rfl T.m__law_draw T.F__law_draw.kp T.b__law_draw .nil pass0 (pa_cons (pv 0) (pa_cons pe_int pa_nil))))
    (pss_cons (ps_set (i := 3) sc_law_row.nd rfl (Or.inl rfl) (pe_ix ix_list (pe_dget (hu_of hr) (pv 1) pe_str (fun _ _ => rfl)) (pe_call G__law_draw (hr.mono (by omega)) rfl T.m__law_draw T.F__law_draw.kp T.b__law_draw .nil pass0 (pa_cons (pv 0) (pa_cons (pe_callB call_len rfl T.z_len PySem.boot_len (pa_cons (pe_dget (hu_of hr) (pv 1) pe_str (fun _ _ => rfl)) pa_nil)) pa_nil))) (fun _ _ => rfl)))
    (pss_cons (ps_if (pt_cmpR op_eq (pv 2) pe_int (nomark _)) (pss_one (ps_ret (pe_tup (pa_cons pe_str (pa_cons (pv 3) (pa_cons (pe_ix ix_tup (pe_dget (hu_of hr) (pv 1) pe_str (fun _ _ => rfl)) (pe_call G__law_draw (hr.mono (by omega)) rfl T.m__law_draw T.F__law_draw.kp T.b__law_draw .nil pass0 (pa_cons (pv 0) (pa_cons (pe_callB call_len rfl T.z_len PySem.boot_len (pa_cons (pe_dget (hu_of hr) (pv 1) pe_str (fun _ _ => rfl)) pa_nil)) pa_nil))) (fun _ _ => rfl)) pa_nil)))))) pss_nil)
    (C8.pss_cut (ps_if (PW.pt (pw_and (pt_cmpR op_eq (pv 2) pe_int (nomark _)) (pw_and1 (pt_cmpR op_eq (pe_dget (hu_of hr) (pv 1) pe_str (fun _ _ => rfl)) pe_str (nomark _))))) (pss_one (ps_ret (pe_tup (pa_cons pe_str (pa_cons (pv 3) pa_nil))))) pss_nil)
    (pss_cons (ps_if (pt_cmpR op_eq (pv 2) pe_int (nomark _)) (pss_one (ps_ret (pe_tup (pa_cons pe_str (pa_cons (pv 3) pa_nil))))) pss_nil)
    (C8.pss_cut (ps_if (PW.pt (pw_and (pt_cmpR op_eq (pv 2) pe_int (nomark _)) (pw_and1 (pt_val (pe_dget (hu_of hr) (pv 1) pe_str (fun _ _ => rfl)))))) (pss_one (ps_ret (pe_tup (pa_cons pe_str (pa_cons (pe_ix ix_tup (pe_dget (hu_of hr) (pv 1) pe_str (fun _ _ => rfl)) (pe_call G__law_draw (hr.mono (by omega)) rfl T.m__law_draw T.F__law_draw.kp T.b__law_draw .nil pass0 (pa_cons (pv 0) (pa_cons (pe_callB call_len rfl T.z_len PySem.boot_len (pa_cons (pe_dget (hu_of hr) (pv 1) pe_str (fun _ _ => rfl)) pa_nil)) pa_nil))) (fun _ _ => rfl)) (pa_cons (pv 3) pa_nil)))))) pss_nil)
    (pss_cons (ps_set (i := 4) sc_law_row.nd rfl (Or.inl rfl) (pe_ix ix_list (pe_dget (hu_of hr) (pv 1) pe_str (fun _ _ => rfl)) (pe_call G__law_draw (hr.mono (by omega)) rfl T.m__law_draw T.F__law_draw.kp T.b__law_draw .nil pass0 (pa_cons (pv 0) (pa_cons (pe_callB call_len rfl T.z_len PySem.boot_len (pa_cons (pe_dget (hu_of hr) (pv 1) pe_str (fun _ _ => rfl)) pa_nil)) pa_nil))) (fun _ _ => rfl)))
    (C8.pss_cut (ps_if (PW.pt (pw_and (pt_cmpR op_eq (pv 2) pe_int (nomark _)) (pw_and1 (pt_val (pe_dget (hu_of hr) (pv 1) pe_str (fun _ _ => rfl)))))) (pss_one (ps_ret (pe_tup (pa_cons pe_str (pa_cons (pv 4) (pa_cons (pv 3) pa_nil)))))) pss_nil)
    (pss_one (ps_ret (pe_tup (pa_cons pe_str (pa_cons (pv 4) (pa_cons (pv 3) pa_nil)))))))))))))), ?_⟩
  -- kind, slot
  refine ⟨_, rfl, st, sc, 6, rfl, by decide, by decide, ok, fun kd H1 kd0 kd1 k1 o1 _ => ?_⟩
  have sh1 := sh.keep k1
  obtain ⟨kvs, aw, asl, ac, aso, pk, wr, e0, e00, e1, e2, e3, e4, e5, e6, e7, e8, e9, e10, e11, e12, e13, e14, e15, e16, e17⟩ := sh1.ex
  refine pick_l (key := "slots") rfl rfl e0 sh1.ne e4 e5 e6 sh1.s0 sh1.small.2.1 o1 fun sl hsl H2 k2 o2 => ?_
  have hsl' := sh.good sl hsl
  have k12 := k1.trans k2
  have sh2 := sh1.keep k2
  obtain ⟨kvs, aw, asl, ac, aso, pk, wr, e0, e00, e1, e2, e3, e4, e5, e6, e7, e8, e9, e10, e11, e12, e13, e14, e15, e16, e17⟩ := sh2.ex
  have give : ∀ (zs : List Str) (r : Td.Row), zs.length ≤ 5 → rowD r = .tuple (zs.map PyData.str) → (∀ dep, okR S dep r) → isIte r = false →
      ∀ H3, Keep st H H3 → StOk H3 st sc → (zs.map V.str).length ≤ sizeLine ∧ ∀ p, H3 p = none → Q (.ref p) (upd H3 p (.tup (zs.map V.str))) := fun zs r hz hr ho hi H3 k3 o3 =>
    ⟨Nat.le_of_lt (small1000 (by rw [List.length_map]; omega)), fun p hp => q _ r _ (k3.trans (Keep.new hp)) (o3.new hp) ho hi (by rw [hr]; exact Tn.new (TnAll.strs zs) hp)⟩
  -- kind == 0: put
  refine ⟨_, rfl, rfl, _, rfl, ?_⟩
  refine ite2 (fun _ => ?_) (fun _ => ?_)
  · refine ⟨_, rfl, pick_t (key := "words") rfl rfl e0 sh2.ne e1 e2 e3 sh2.w0 sh2.small.1 o2 fun wd hwd H3 k3 o3 => ?_⟩
    exact give ["put", sl, wd] (.put sl wd) (Nat.le_of_ble_eq_true rfl) rfl (fun dep => by unfold okR; exact ⟨hsl', hwd⟩) rfl H3 (k12.trans k3) o3
  -- kind == 1 and shape["kind"] == "derived": give
  refine ⟨fun σ' H' => H' = H2 ∧ σ' = [some (.ref st), some (.ref d), some (.int kd), some (.str sl), none] ∧ (kd = 1 → S.eff = true), ?_, ?_⟩
  · refine ⟨_, rfl, rfl, _, rfl, ?_⟩
    refine ite2 (fun c => ?_) (fun c => ?_)
    · refine ⟨_, rfl, d, _, rfl, dget_of e0 e13, rfl, _, rfl, ?_⟩
      cases hE : S.eff with
      | false =>
        refine if_true_of (by rw [if_neg Bool.false_ne_true]; decide +kernel) ?_
        exact ⟨_, rfl, give ["give", sl] (.give sl) (Nat.le_of_ble_eq_true rfl) rfl (fun dep => by unfold okR; exact ⟨hE, hsl'⟩) rfl H2 k12 o2⟩
      | true =>
        refine if_false_of (by rw [if_pos rfl]; decide +kernel) ?_
        exact ⟨rfl, rfl, fun _ => rfl⟩
    · refine iteF ⟨rfl, rfl, fun e => absurd ?_ c⟩
      rw [e]; decide +kernel
  rintro σ' H' ⟨rfl, rfl, hk1⟩
  -- kind == 1: say
  refine ⟨_, rfl, rfl, _, rfl, ?_⟩
  refine ite2 (fun c => ?_) (fun _ => ?_)
  · have hk : kd = 1 := by
      have := of_decide_eq_true c
      injection this
    exact ⟨_, rfl, give ["say", sl] (.say sl) (Nat.le_of_ble_eq_true rfl) rfl (fun dep => by unfold okR; exact ⟨hk1 hk, hsl'⟩) rfl H' k12 o2⟩
  -- kind == 2 and shape["writes"]
  refine ⟨fun σ' H'' => H'' = H' ∧ σ' = [some (.ref st), some (.ref d), some (.int kd), some (.str sl), none], ?_, ?_⟩
  · refine ⟨_, rfl, rfl, _, rfl, ?_⟩
    refine ite2 (fun _ => ?_) (fun _ => iteF ⟨rfl, rfl⟩)
    refine ⟨_, rfl, d, _, rfl, dget_of e0 e15, _, rfl, ?_⟩
    refine ite2 (fun hw => ?_) (fun _ => ⟨rfl, rfl⟩)
    refine pick_t (key := "sources") rfl rfl e0 sh2.ne e10 e11 e12 sh2.o0 sh2.small.2.2.2 o2 fun so hso H3 k3 o3 => ⟨_, rfl, ?_⟩
    exact give ["write", so, sl] (.wr so sl) (Nat.le_of_ble_eq_true rfl) rfl (fun dep => by unfold okR; exact ⟨e17 hw, hso, hsl'⟩) rfl H3 (k12.trans k3) o3
  rintro σ' H'' ⟨rfl, rfl⟩
  -- cell
  refine pick_l (key := "cells") rfl rfl e0 sh2.ne e7 e8 e9 sh2.c0 sh2.small.2.2.1 o2 fun ce hce H3 k3 o3 => ?_
  have sh3 := sh2.keep k3
  obtain ⟨kvs3, aw3, asl3, ac3, aso3, pk3, wr3, f0, f00, f1, f2, f3, f4, f5, f6, f7, f8, f9, f10, f11, f12, f13, f14, f15, f16, f17⟩ := sh3.ex
  refine ⟨fun σ' H4 => H4 = H3 ∧ σ' = [some (.ref st), some (.ref d), some (.int kd), some (.str sl), some (.str ce)], ?_, ?_⟩
  · refine ⟨_, rfl, rfl, _, rfl, ?_⟩
    refine ite2 (fun _ => ?_) (fun _ => iteF ⟨rfl, rfl⟩)
    refine ⟨_, rfl, d, _, rfl, dget_of f0 f14, _, rfl, ?_⟩
    refine ite2 (fun hp => ?_) (fun _ => ⟨rfl, rfl⟩)
    exact ⟨_, rfl, _, rfl, give ["peek", ce, sl] (.rd true ce sl) (Nat.le_of_ble_eq_true rfl) rfl (fun dep => by unfold okR; exact ⟨fun _ => f16 hp, hce, hsl'⟩) rfl H3 (k12.trans k3) o3⟩
  rintro σ' H4 ⟨rfl, rfl⟩
  exact ⟨_, rfl, _, rfl, give ["read", ce, sl] (.rd false ce sl) (Nat.le_of_ble_eq_true rfl) rfl (fun dep => by unfold okR; exact ⟨(fun h => nomatch h), hce, hsl'⟩) rfl H4 (k12.trans k3) o3⟩
end
end K68
namespace K68
open PySem PySem.Spec PyProof.Rows L2 Td
def spRows (K : PySem.W.Frag) (n : Nat) : Sp := fun vs H Q _ => ∃ (st sc d : Addr) (S : Sc) (slots : List Str) (dep : Nat) (room : Int),
  vs = [.ref st, .ref d, .int (dep : Nat), .int room] ∧ StOk H st sc ∧ ShapeAt K st H d S slots ∧ dep ≤ 4 ∧ 6 ≤ dep + n ∧ 0 ≤ room ∧ room ≤ 100 ∧
  ∀ (v : V) (rs : List Td.Row) (H' : Hp), Keep st H H' → StOk H' st sc → okRs S dep rs → (cnts rs : Int) ≤ room → Tn K H' v (.tuple (rowsD rs)) → Q v H'
theorem cnts_one (r : Td.Row) : cnts [r] = Td.cnt r := by simp [cnts]
theorem rowsD_one (r : Td.Row) : rowsD [r] = [rowD r] := by simp [rowsD]
theorem cnts_len : ∀ rs : List Td.Row, rs.length ≤ cnts rs
  | [] => Nat.zero_le _
  | r :: rs => by
    have := cnts_len rs
    have := cnt_pos r
    simp only [cnts, List.length_cons]
    omega
section
variable {P : Program} {w : World} {K : PySem.W.Frag} {mg : Str → Option Value} {base : Heap}
theorem ok_rows1 (T : Tops w K mg) {n : Nat} (hn5 : 5 ≤ n)
    (G__law_draw : FnOk P w K mg base CX0 1 T.a__law_draw T.d__law_draw ["_law_state_here", "_law_many_here"] spDraw)
    (G__law_row : FnOk P w K mg base CX0 2 T.a__law_row T.d__law_row ["_law_state_here", "_law_shape"] (spRow K))
    (G__law_many : FnOk P w K mg base CX0 5 T.a__law_many T.d__law_many ["_law_rows_here"] (spMany K 5))
    (G__law_rows : FnOk P w K mg base CX0 n T.a__law_rows T.d__law_rows ["_law_state_here", "_law_shape", "_law_depth", "_law_room"] (spRows K (n - 5))) :
    FnOk P w K mg base CX0 (n + 1) T.a__law_rows T.d__law_rows ["_law_state_here", "_law_shape", "_law_depth", "_law_room"] (spRows K (n - 5 + 1)) := by
  refine T.F__law_rows.ok sc_law_rows (fun vs H Q E h => ?_) (fun cdv A outer s H vs Q E hr h => ?_)
  · obtain ⟨st, sc, d, S, slots, dep, room, rfl, _⟩ := h
    rfl
  obtain ⟨st, sc, d, S, slots, dep, room, rfl, ok, sh, hdep, hn, hr0, hr1, q⟩ := h
  refine ⟨_, (pss_cons (ps_set (i := 4) sc_law_rows.nd rfl (Or.inl rfl) (pe_lst pa_nil))
    (pss_cons (ps_set (i := 5) sc_law_rows.nd rfl (Or.inl rfl) (pv 3))
    (pss_cons (ps_for PassesOwn.never rfl (pi_range1 rfl T.z_range (pa_cons (pe_op op_add pe_int (pe_call G__law_draw (hr.mono (by omega)) rfl T.m__law_draw T.F__law_draw.kp T.b__law_draw .nil pass0 (pa_cons (pv 0) (pa_cons pe_int pa_nil)))) pa_nil)) (pg_name (i := 6) sc_law_rows.nd rfl (Or.inl rfl)) (pss_one (ps_ifC (PW.pt (pw_and (pt_cmpR op_ge (pv 5) pe_int (nomark _)) (pw_and (pt_cmpR op_lt (pv 2) pe_int (nomark _)) (pw_and1 (pt_cmpR op_eq (pe_call G__law_draw (hr.mono (by omega)) rfl T.m__law_draw T.F__law_draw.kp T.b__law_draw .nil pass0 (pa_cons (pv 0) (pa_cons pe_int pa_nil))) pe_int (nomark _)))))) (pss_cons (ps_set (i := 7) sc_law_rows.nd rfl (Or.inl rfl) (pe_ix ix_list (pe_dget (hu_of hr) (pv 1) pe_str (fun _ _ => rfl)) (pe_call G__law_draw (hr.mono (by omega)) rfl T.m__law_draw T.F__law_draw.kp T.b__law_draw .nil pass0 (pa_cons (pv 0) (pa_cons (pe_callB call_len rfl T.z_len PySem.boot_len (pa_cons (pe_dget (hu_of hr) (pv 1) pe_str (fun _ _ => rfl)) pa_nil)) pa_nil))) (fun _ _ => rfl)))
    (pss_cons (ps_set (i := 8) sc_law_rows.nd rfl (Or.inl rfl) (pe_ix ix_list (pe_dget (hu_of hr) (pv 1) pe_str (fun _ _ => rfl)) (pe_call G__law_draw (hr.mono (by omega)) rfl T.m__law_draw T.F__law_draw.kp T.b__law_draw .nil pass0 (pa_cons (pv 0) (pa_cons (pe_callB call_len rfl T.z_len PySem.boot_len (pa_cons (pe_dget (hu_of hr) (pv 1) pe_str (fun _ _ => rfl)) pa_nil)) pa_nil))) (fun _ _ => rfl)))
    (pss_cons (ps_set (i := 9) sc_law_rows.nd rfl (Or.inl rfl) (pe_ix ix_tup (pe_dget (hu_of hr) (pv 1) pe_str (fun _ _ => rfl)) (pe_call G__law_draw (hr.mono (by omega)) rfl T.m__law_draw T.F__law_draw.kp T.b__law_draw .nil pass0 (pa_cons (pv 0) (pa_cons (pe_callB call_len rfl T.z_len PySem.boot_len (pa_cons (pe_dget (hu_of hr) (pv 1) pe_str (fun _ _ => rfl)) pa_nil)) pa_nil))) (fun _ _ => rfl)))
    (pss_cons (ps_expr (pe_bm PySem.F.plainAttrs_list PySem.F.slot_list_append PySem.F.type_list_append mt_append (pv 4) (pa_cons (pe_tup (pa_cons pe_str (pa_cons (pv 8) (pa_cons (pv 7) pa_nil)))) pa_nil)))
    (pss_cons (ps_set (i := 10) sc_law_rows.nd rfl (Or.inl rfl) (pe_call G__law_rows (hr.mono (by omega)) rfl T.m__law_rows T.F__law_rows.kp T.b__law_rows .nil pass0 (pa_cons (pv 0) (pa_cons (pv 1) (pa_cons (pe_op op_add (pv 2) pe_int) (pa_cons (pe_op op_fdivW (pe_op op_sub (pv 5) pe_int) pe_int) pa_nil))))))
    (pss_cons (ps_set (i := 11) sc_law_rows.nd rfl (Or.inl rfl) (pe_call G__law_rows (hr.mono (by omega)) rfl T.m__law_rows T.F__law_rows.kp T.b__law_rows .nil pass0 (pa_cons (pv 0) (pa_cons (pv 1) (pa_cons (pe_op op_add (pv 2) pe_int) (pa_cons (pe_op op_fdivW (pe_op op_sub (pv 5) pe_int) pe_int) pa_nil))))))
    (pss_cons (ps_expr (pe_bm PySem.F.plainAttrs_list PySem.F.slot_list_append PySem.F.type_list_append mt_append (pv 4) (pa_cons (pe_tup (pa_cons pe_str (pa_cons (pv 7) (pa_cons (pv 9) (pa_cons (pv 10) (pa_cons (pv 11) pa_nil)))))) pa_nil)))
    (pss_one (ps_set (i := 5) sc_law_rows.nd rfl (Or.inl rfl) (pe_op op_sub (pe_op op_sub (pe_op op_sub (pv 5) pe_int) (pe_call G__law_many (hr.mono (by omega)) rfl T.m__law_many T.F__law_many.kp T.b__law_many .nil pass0 (pa_cons (pv 10) pa_nil))) (pe_call G__law_many (hr.mono (by omega)) rfl T.m__law_many T.F__law_many.kp T.b__law_many .nil pass0 (pa_cons (pv 11) pa_nil)))))))))))) (pss_one (ps_if (pt_cmpR op_ge (pv 5) pe_int (nomark _)) (pss_cons (ps_expr (pe_bm PySem.F.plainAttrs_list PySem.F.slot_list_append PySem.F.type_list_append mt_append (pv 4) (pa_cons (pe_call G__law_row (hr.mono (by omega)) rfl T.m__law_row T.F__law_row.kp T.b__law_row .nil pass0 (pa_cons (pv 0) (pa_cons (pv 1) pa_nil))) pa_nil)))
    (pss_one (ps_set (i := 5) sc_law_rows.nd rfl (Or.inl rfl) (pe_op op_sub (pv 5) pe_int)))) pss_nil)))))
    (pss_one (ps_ret (pe_callTy call_tuple_of rfl T.z_tuple (by decide +kernel) (pa_cons (pv 4) pa_nil))))))), ?_⟩
  refine ⟨Nat.zero_le _, fun p hp => ?_⟩
  obtain ⟨nps, npc⟩ := ok.ne hp
  have ok0 : StOk (upd H p (.lst [])) st sc := ok.new hp
  have kp0 : Keep st H (upd H p (.lst [])) := Keep.new hp
  refine ⟨_, rfl, _, rfl, st, sc, 4, rfl, by decide, by decide, ok0, fun tn H1 t0 t1 k1 o1 _ => ⟨_, _, rfl, rfl, _, rfl, by omega, by omega, ?_⟩⟩
  have kH1 : Keep st H H1 := kp0.trans k1
  have hpH1 : H1 p = some (.lst []) := k1 _ _ nps upd_same
  refine for_range (lo := 0) (n := (1 + tn).toNat) (fun i σ H' => ∃ (left : Int) (v6 v7 v8 v9 v10 v11 : Option V) (xs : List V) (rs : List Td.Row),
    σ = [some (.ref st), some (.ref d), some (.int (dep : Nat)), some (.int room), some (.ref p), some (.int left), v6, v7, v8, v9, v10, v11] ∧
    Keep st H H' ∧ StOk H' st sc ∧ H' p = some (.lst xs) ∧ TnAll K H' xs (rowsD rs) ∧ okRs S dep rs ∧ (cnts rs : Int) + left ≤ room ∧ 0 ≤ left)
    ⟨room, none, none, none, none, none, none, [], [], rfl, kH1, o1, hpH1, by unfold rowsD; exact .nil, by unfold okRs; trivial, by simp [cnts], hr0⟩ ?_ ?_
  · rintro i σ H2 hi ⟨left, v6, v7, v8, v9, v10, v11, xs, rs, rfl, kH, oH, hpH, hT, hok, hcnt, hl0⟩
    have hlen : ∀ ys : List V, TnAll K H2 ys (rowsD rs) → ys.length ≤ 100 := fun ys h => by
      have e := h.length
      rw [rowsD_length] at e
      have := cnts_len rs
      omega
    -- append a row's tuple
    have app : ∀ {H3 : Hp} {v : V} {r : Td.Row} {ys : List V} {ts : List Td.Row}, Keep st H H3 → StOk H3 st sc → H3 p = some (.lst ys) → TnAll K H3 ys (rowsD ts) → okRs S dep ts → Tn K H3 v (rowD r) → okR S dep r →
        Keep st H (upd H3 p (.lst (ys ++ [v]))) ∧ StOk (upd H3 p (.lst (ys ++ [v]))) st sc ∧ TnAll K (upd H3 p (.lst (ys ++ [v]))) (ys ++ [v]) (rowsD (ts ++ [r])) ∧ okRs S dep (ts ++ [r]) ∧ cnts (ts ++ [r]) = cnts ts + Td.cnt r ∧ TK H3 (upd H3 p (.lst (ys ++ [v]))) := by
      intro H3 v r ys ts k3 o3 hp3 t3 okt tv okr
      have tk : TK H3 (upd H3 p (.lst (ys ++ [v]))) := TK.upd (by rw [hp3]; trivial)
      refine ⟨k3.own (ok.ne hp |>.1 |> fun _ => hp), o3.other nps npc, ?_, okRs_append okt (okRs_one okr), ?_, tk⟩
      · rw [rowsD_append, rowsD_one]
        exact TnAll.append (TnAll.keep tk t3) (TnAll.one (Tn.keep tk tv))
      · rw [cnts_append, cnts_one]
    have chg : ∀ {H3 : Hp}, StOk H3 st sc → Chg (H3 st) := fun o => by obtain ⟨L, hL⟩ := o.at; rw [hL]; trivial
    refine ⟨fun H3 => Keep st H2 H3 ∧ StOk H3 st sc, ?_, ?_⟩
    · refine ⟨_, rfl, _, _, rfl, rfl, _, rfl, ?_⟩
      refine ite2 (fun c1 => ?_) (fun _ => iteF ⟨Keep.refl _ _, oH⟩)
      have c1' : 2 ≤ left := of_decide_eq_true c1
      refine ⟨_, rfl, _, _, rfl, rfl, _, rfl, ?_⟩
      refine ite2 (fun c2 => ?_) (fun _ => iteF ⟨Keep.refl _ _, oH⟩)
      have c2' : ((dep : Nat) : Int) < 4 := of_decide_eq_true c2
      refine ⟨_, rfl, st, sc, 3, rfl, by decide, by decide, oH, fun x3 H3 x30 x31 k3 o3 _ => ⟨rfl, _, rfl, ?_⟩⟩
      refine ite2 (fun _ => ?_) (fun _ => ⟨k3, o3⟩)
      have sh3 := sh.keep (kH.trans k3)
      obtain ⟨kvs, aw, asl, ac, aso, pk, wr, e0, e00, e1, e2, e3, e4, e5, e6, e7, e8, e9, e10, e11, e12, e13, e14, e15, e16, e17⟩ := sh3.ex
      refine pick_l (key := "slots") rfl rfl e0 sh3.ne e4 e5 e6 sh3.s0 sh3.small.2.1 o3 fun sl hsl H4 k4 o4 => ?_
      have hsl' := sh3.good sl hsl
      have sh4 := sh3.keep k4
      obtain ⟨kvs, aw, asl, ac, aso, pk, wr, e0, e00, e1, e2, e3, e4, e5, e6, e7, e8, e9, e10, e11, e12, e13, e14, e15, e16, e17⟩ := sh4.ex
      refine pick_l (key := "cells") rfl rfl e0 sh4.ne e7 e8 e9 sh4.c0 sh4.small.2.2.1 o4 fun ce hce H5 k5 o5 => ?_
      have sh5 := sh4.keep k5
      obtain ⟨kvs, aw, asl, ac, aso, pk, wr, e0, e00, e1, e2, e3, e4, e5, e6, e7, e8, e9, e10, e11, e12, e13, e14, e15, e16, e17⟩ := sh5.ex
      refine pick_t (key := "words") rfl rfl e0 sh5.ne e1 e2 e3 sh5.w0 sh5.small.1 o5 fun wd hwd H6 k6 o6 => ?_
      have k26 : Keep st H2 H6 := k3.trans (k4.trans (k5.trans k6))
      have hp6 := k26 _ _ nps hpH
      have cst : Chg (H2 st) := by obtain ⟨L, hL⟩ := oH.at; rw [hL]; trivial
      have tk26 : TK H2 H6 := TK.of_keep k26 cst
      have t6 := TnAll.keep tk26 hT
      have hx100 := hlen xs hT
      -- append ("read", cell, slot)
      refine ⟨_, rfl, .inl ⟨rfl, _, SqL.of hp6⟩, _, rfl, _, rfl, by show 3 ≤ sizeLine; decide, fun t1 ht1 => ?_⟩
      have npt : p ≠ t1 := fun e => by rw [e, ht1] at hp6; cases hp6
      have hp7 : upd H6 t1 (.tup [.str "read", .str ce, .str sl]) p = some (.lst xs) := by rw [upd_ne npt]; exact hp6
      refine ⟨p, _, _, rfl, rfl, hp7, small1000 (by omega), ?_⟩
      have k7 : Keep st H (upd H6 t1 (.tup [.str "read", .str ce, .str sl])) := (kH.trans k26).trans (Keep.new ht1)
      obtain ⟨k8, o8, t8, ok8, c8, tk8⟩ := app (r := .rd false ce sl) k7 (o6.new ht1) hp7
        (TnAll.keep (TK.of_same (Same.new ht1 _)) t6) hok (by unfold rowD; exact Tn.new (TnAll.strs ["read", ce, sl]) ht1) (by unfold okR; exact ⟨(fun h => nomatch h), hce, hsl'⟩)
      have h8p : upd (upd H6 t1 (.tup [.str "read", .str ce, .str sl])) p (.lst (xs ++ [.ref t1])) p = some (.lst (xs ++ [.ref t1])) := upd_same
      show tSeq _ _ _ _ (upd (upd H6 t1 (.tup [.str "read", .str ce, .str sl])) p (.lst (xs ++ [.ref t1])))
      generalize upd (upd H6 t1 (.tup [.str "read", .str ce, .str sl])) p (.lst (xs ++ [.ref t1])) = H8 at k8 o8 t8 h8p
      -- yes, no
      refine ⟨_, rfl, _, rfl, _, rfl, _, _, rfl, rfl, _, rfl, _, _, rfl, rfl, _, _, rfl, rfl, wide_div (b := 64) (by decide) (by decide) (by decide) (by decide), ?_⟩
      refine ⟨st, sc, d, S, slots, dep + 1, _, rfl, o8, sh.keep k8, by omega, by omega, by omega, by omega, fun vy y H9 k9 o9 oky cy ty => ?_⟩
      refine ⟨_, rfl, _, rfl, _, rfl, _, _, rfl, rfl, _, rfl, _, _, rfl, rfl, _, _, rfl, rfl, wide_div (b := 64) (by decide) (by decide) (by decide) (by decide), ?_⟩
      refine ⟨st, sc, d, S, slots, dep + 1, _, rfl, o9, sh.keep (k8.trans k9), by omega, by omega, by omega, by omega, fun vn y' H10 k10 o10 okn cn tn' => ?_⟩
      have h10p := k10 _ _ nps (k9 _ _ nps h8p)
      have tk810 : TK H8 H10 := (TK.of_keep k9 (chg o8)).trans (TK.of_keep k10 (chg o9))
      have ty10 := Tn.keep (TK.of_keep k10 (chg o9)) ty
      -- append ("if", slot, word, yes, no)
      refine ⟨_, rfl, .inl ⟨rfl, _, SqL.of h10p⟩, _, rfl, _, rfl, _, rfl, _, rfl, by show 5 ≤ sizeLine; decide, fun t2 ht2 => ?_⟩
      have npt2 : p ≠ t2 := fun e => by rw [e, ht2] at h10p; cases h10p
      have tup2 : Tn K (upd H10 t2 (.tup [.str "if", .str sl, .str wd, vy, vn])) (.ref t2) (rowD (.ite sl wd y y')) := by
        unfold rowD
        exact Tn.new (.cons (.str _) (.cons (.str _) (.cons (.str _) (.cons ty10 (.cons tn' .nil))))) ht2
      have h11p : upd H10 t2 (.tup [.str "if", .str sl, .str wd, vy, vn]) p = some (.lst (xs ++ [.ref t1])) := by rw [upd_ne npt2]; exact h10p
      refine ⟨p, _, _, rfl, rfl, h11p, small1000 (by rw [List.length_append]; show xs.length + 1 ≤ 1000; omega), ?_⟩
      have k11 : Keep st H (upd H10 t2 (.tup [.str "if", .str sl, .str wd, vy, vn])) := ((k8.trans k9).trans k10).trans (Keep.new ht2)
      have tk11 : TK H10 (upd H10 t2 (.tup [.str "if", .str sl, .str wd, vy, vn])) := TK.of_same (Same.new ht2 _)
      obtain ⟨k12, o12, t12, ok12, c12, tk12⟩ := app k11 (o10.new ht2) h11p (TnAll.keep (tk810.trans tk11) t8) ok8 tup2 (by unfold okR; exact ⟨by omega, hsl', hwd, oky, okn⟩)
      have ec : Td.cnt (.ite sl wd y y') = 1 + cnts y + cnts y' := by unfold Td.cnt; rfl
      have er : Td.cnt (.rd false ce sl) = 1 := rfl
      have ty12 := Tn.keep (tk11.trans tk12) ty10
      have tn12 := Tn.keep (tk11.trans tk12) tn'
      refine ⟨_, rfl, _, _, rfl, rfl, _, rfl, vy, y, S, dep + 1, rfl, ty12.dp, oky, by omega, by omega, _, _, rfl, rfl, _, rfl, vn, y', S, dep + 1, rfl, tn12.dp, okn, by omega, by omega, _, _, rfl, rfl, ?_⟩
      exact ⟨_, _, _, _, _, _, _, _, _, rfl, k12, o12, upd_same, t12, ok12, by rw [c12, c8, ec, er]; omega, by omega⟩
    · rintro H3 ⟨k3, o3⟩
      refine ⟨_, rfl, _, _, rfl, rfl, _, rfl, ?_⟩
      refine ite2 (fun c1 => ?_) (fun _ => ?_)
      · have c1' : 1 ≤ left := of_decide_eq_true c1
        have hp3 := k3 _ _ nps hpH
        have cst : Chg (H2 st) := by obtain ⟨L, hL⟩ := oH.at; rw [hL]; trivial
        have t3 := TnAll.keep (TK.of_keep k3 cst) hT
        have hx100 := hlen xs hT
        refine ⟨_, rfl, .inl ⟨rfl, _, SqL.of hp3⟩, _, rfl, _, rfl, st, sc, d, S, slots, rfl, o3, sh.keep (kH.trans k3), fun v r H4 k4 o4 okr hir tv => ?_⟩
        have hp4 := k4 _ _ nps hp3
        refine ⟨p, _, _, rfl, rfl, hp4, small1000 (by omega), ?_⟩
        refine ⟨_, rfl, _, _, rfl, rfl, ?_⟩
        have cst3 : Chg (H3 st) := by obtain ⟨L, hL⟩ := o3.at; rw [hL]; trivial
        obtain ⟨k5, o5, t5, ok5, c5, tk5⟩ := app ((kH.trans k3).trans k4) o4 hp4 (TnAll.keep (TK.of_keep k4 cst3) t3) hok tv (okr dep)
        have e1 := cnt_flat hir
        exact ⟨_, _, v7, v8, v9, v10, v11, _, _, rfl, k5, o5, upd_same, t5, ok5, by rw [c5, e1]; omega, by omega⟩
      · exact ⟨left, _, v7, v8, v9, v10, v11, xs, rs, rfl, kH.trans k3, o3, k3 _ _ nps hpH, TnAll.keep (TK.of_keep k3 (chg oH)) hT, hok, hcnt, hl0⟩
  · rintro σ H2 ⟨left, v6, v7, v8, v9, v10, v11, xs, rs, rfl, kH, oH, hpH, hT, hok, hcnt, hl0⟩
    refine ⟨_, rfl, p, _, rfl, .inl ⟨SqL.of hpH, fun t ht => ?_⟩⟩
    exact q _ rs _ (kH.trans (Keep.new ht)) (oH.new ht) hok (by omega) (Tn.new hT ht)
theorem ok_rows (T : Tops w K mg)
    (G1 : FnOk P w K mg base CX0 1 T.a__law_draw T.d__law_draw ["_law_state_here", "_law_many_here"] spDraw)
    (G2 : FnOk P w K mg base CX0 2 T.a__law_row T.d__law_row ["_law_state_here", "_law_shape"] (spRow K))
    (G3 : FnOk P w K mg base CX0 5 T.a__law_many T.d__law_many ["_law_rows_here"] (spMany K 5)) :
    ∀ k, FnOk P w K mg base CX0 (k + 5) T.a__law_rows T.d__law_rows ["_law_state_here", "_law_shape", "_law_depth", "_law_room"] (spRows K k)
  | 0 => by
    have no : ∀ vs H Q E, ¬ spRows K 0 vs H Q E := fun vs H Q E h => by
      obtain ⟨_, _, _, _, _, dep, _, _, _, _, h1, h2, _⟩ := h
      omega
    exact ⟨fun vs H Q E h => absurd h (no vs H Q E), fun A outer s H args us vs Q E _ _ _ _ h => absurd h (no vs H Q E)⟩
  | k + 1 => ok_rows1 T (n := k + 5) (by omega) G1 G2 G3 (ok_rows T G1 G2 G3 k)
end
end K68
namespace K68
open PySem PySem.Spec PyProof.Rows L2 Td
def spParts (K : PySem.W.Frag) : Sp := fun vs H Q _ => ∃ (st sc z : Addr) (a0 a1 a2 a3 a4 : Int) (pk wr : Bool),
  vs = [.ref st, .ref z, .bl pk, .bl wr] ∧ StOk H st sc ∧ SqT K H z [.int a0, .int a1, .int a2, .int a3, .int a4] ∧ z ≠ st ∧
  1 ≤ a0 ∧ a0 ≤ 3 ∧ 1 ≤ a1 ∧ a1 ≤ 4 ∧ 0 ≤ a2 ∧ a2 ≤ 6 ∧ 0 ≤ a3 ∧ a3 ≤ 4 ∧ 0 ≤ a4 ∧ a4 ≤ 15 ∧
  ∀ (v : V) (pp : PP) (H' : Hp), Keep st H H' → StOk H' st sc → pp.Ok (a4.toNat + 1) → (pp.sources.length : Int) ≤ a1 → DataX K H' v pp.words pp.sources (pairsD pp.derived) (pairsD pp.effects) → Q v H'
/-- what stands while the bodies are drawn -/
structure PSt (K : PySem.W.Frag) (H0 H : Hp) (st sc aw pN p2 p4 pd pD : Addr) (ws srcs slots ns : List Str) (kd pk wr : V) (rd : List Str) (xs : List V) (ds : List (Str × List Td.Row)) : Prop where
  kp : Keep st H0 H
  ok : StOk H st sc
  wA : SqT K H aw (ws.map V.str)
  sA : FzT H p4 (srcs.map V.str)
  nA : H pN = some (.lst (ns.map V.str))
  lA : H p2 = some (.lst (slots.map V.str))
  dA : ∃ pc, H pd = some (.dK (shp7 kd (.ref pc) (.ref p4) (.ref p2) (.ref aw) pk wr)) ∧ H pc = some (.lst (rd.map V.str)) ∧ pc ≠ st ∧ pc ≠ pD
  xA : H pD = some (.lst xs)
  tA : TnAll K H xs (ds.map Td.pairD)
structure PNe (H0 : Hp) (st sc aw pN p2 p4 pd pD : Addr) : Prop where
  naw : aw ≠ st
  npN : pN ≠ st
  np2 : p2 ≠ st
  np4 : p4 ≠ st
  npd : pd ≠ st
  npD : pD ≠ st
  ndc : pd ≠ sc
  nDc : pD ≠ sc
  d0 : H0 pd = none
  D0 : H0 pD = none
  nN : pN ≠ pD
  n2 : p2 ≠ pD
section
variable {K : PySem.W.Frag} {H0 H H' : Hp} {st sc aw pN p2 p4 pd pD : Addr} {ws srcs slots ns : List Str} {kd pk wr : V} {rd : List Str} {xs : List V} {ds : List (Str × List Td.Row)}
theorem StOk.chg (h : StOk H st sc) : Chg (H st) := by
  obtain ⟨L, hL⟩ := h.at
  rw [hL]; trivial
theorem PSt.keep (h : PSt K H0 H st sc aw pN p2 p4 pd pD ws srcs slots ns kd pk wr rd xs ds) (n : PNe H0 st sc aw pN p2 p4 pd pD) (k : Keep st H H') (o : StOk H' st sc) :
    PSt K H0 H' st sc aw pN p2 p4 pd pD ws srcs slots ns kd pk wr rd xs ds := by
  obtain ⟨pc, d1, d2, d3, d4⟩ := h.dA
  exact ⟨h.kp.trans k, o, SqT.keep k n.naw h.wA, FzT.keep k n.np4 h.sA, k _ _ n.npN h.nA, k _ _ n.np2 h.lA, ⟨pc, k _ _ n.npd d1, k _ _ d3 d2, d3, d4⟩, k _ _ n.npD h.xA,
    TnAll.keep (TK.of_keep k h.ok.chg) h.tA⟩
theorem PSt.new {p : Addr} {o : HO} (h : PSt K H0 H st sc aw pN p2 p4 pd pD ws srcs slots ns kd pk wr rd xs ds) (n : PNe H0 st sc aw pN p2 p4 pd pD) (hp : H p = none) :
    PSt K H0 (upd H p o) st sc aw pN p2 p4 pd pD ws srcs slots ns kd pk wr rd xs ds := h.keep n (Keep.new hp) (h.ok.new hp)
theorem PSt.shape {eff p r : Bool} (h : PSt K H0 H st sc aw pN p2 p4 pd pD ws srcs slots ns (.str (if eff then "effects" else "derived")) (.bl p) (.bl r) rd xs ds) (n : PNe H0 st sc aw pN p2 p4 pd pD)
    (hp : p = true → eff = true) (hr : r = true → eff = true) (w0 : ws ≠ []) (s0 : slots ≠ []) (c0 : rd ≠ []) (o0 : srcs ≠ []) (sm : ws.length ≤ 100 ∧ slots.length ≤ 100 ∧ rd.length ≤ 100 ∧ srcs.length ≤ 100) (g : ∀ z ∈ slots, isNm z = true) :
    ShapeAt K st H pd ⟨eff, ws, srcs, rd⟩ slots := by
  obtain ⟨pc, d1, d2, d3, d4⟩ := h.dA
  exact ⟨⟨_, aw, p2, pc, p4, p, r, d1, by show 7 ≤ 100; decide, get_words .., h.wA, n.naw, get_slots .., SqL.of h.lA, n.np2, get_cells .., SqL.of d2, d3, get_sources .., h.sA.sq, n.np4, get_kind .., get_peeks .., get_writes .., hp, hr⟩, n.npd, w0, s0, c0, o0, sm, g⟩
theorem PSt.app {v : V} {q : Str × List Td.Row} (h : PSt K H0 H st sc aw pN p2 p4 pd pD ws srcs slots ns kd pk wr rd xs ds) (n : PNe H0 st sc aw pN p2 p4 pd pD) (tv : Tn K H v (Td.pairD q)) :
    PSt K H0 (upd H pD (.lst (xs ++ [v]))) st sc aw pN p2 p4 pd pD ws srcs slots ns kd pk wr rd (xs ++ [v]) (ds ++ [q]) := by
  obtain ⟨pc, d1, d2, d3, d4⟩ := h.dA
  have tk : TK H (upd H pD (.lst (xs ++ [v]))) := TK.upd (by rw [h.xA]; trivial)
  have ne1 : pd ≠ pD := ne_of d1 h.xA (by intro e; cases e)
  refine ⟨h.kp.own n.D0, h.ok.other n.npD n.nDc, SqT.tk tk h.wA, FzT.tk tk h.sA, by rw [upd_ne n.nN]; exact h.nA, by rw [upd_ne n.n2]; exact h.lA,
    ⟨pc, by rw [upd_ne ne1]; exact d1, by rw [upd_ne d4]; exact d2, d3, d4⟩, upd_same, ?_⟩
  rw [List.map_append]
  exact TnAll.append (TnAll.keep tk h.tA) (TnAll.one (Tn.keep tk tv))
/-- the dict is changed -/
theorem PSt.put {kd' pk' wr' : V} {rd' : List Str} {pc' : Addr} (h : PSt K H0 H st sc aw pN p2 p4 pd pD ws srcs slots ns kd pk wr rd xs ds) (n : PNe H0 st sc aw pN p2 p4 pd pD)
    (hc : H pc' = some (.lst (rd'.map V.str))) (h1 : pc' ≠ st) (h2 : pc' ≠ pD) :
    PSt K H0 (upd H pd (.dK (shp7 kd' (.ref pc') (.ref p4) (.ref p2) (.ref aw) pk' wr'))) st sc aw pN p2 p4 pd pD ws srcs slots ns kd' pk' wr' rd' xs ds := by
  obtain ⟨pc, d1, d2, d3, d4⟩ := h.dA
  have tk : TK H (upd H pd (.dK (shp7 kd' (.ref pc') (.ref p4) (.ref p2) (.ref aw) pk' wr'))) := TK.upd (by rw [d1]; trivial)
  exact ⟨h.kp.own n.d0, h.ok.other n.npd n.ndc, SqT.tk tk h.wA, FzT.tk tk h.sA, by rw [upd_ne (ne_of h.nA d1 (by intro e; cases e))]; exact h.nA, by rw [upd_ne (ne_of h.lA d1 (by intro e; cases e))]; exact h.lA,
    ⟨pc', upd_same, by rw [upd_ne (ne_of hc d1 (by intro e; cases e))]; exact hc, h1, h2⟩, by rw [upd_ne (ne_of h.xA d1 (by intro e; cases e))]; exact h.xA, TnAll.keep tk h.tA⟩
end
section
variable {P : Program} {w : World} {K : PySem.W.Frag} {mg : Str → Option Value} {base : Heap}
theorem ok_parts (T : Tops w K mg)
    (G__law_draw : FnOk P w K mg base CX0 1 T.a__law_draw T.d__law_draw ["_law_state_here", "_law_many_here"] spDraw)
    (G__law_names : FnOk P w K mg base CX0 2 T.a__law_names T.d__law_names ["_law_state_here", "_law_many_here"] spNames)
    (G__law_rows : FnOk P w K mg base CX0 10 T.a__law_rows T.d__law_rows ["_law_state_here", "_law_shape", "_law_depth", "_law_room"] (spRows K 5)) :
    FnOk P w K mg base CX0 11 T.a__law_parts T.d__law_parts ["_law_state_here", "_law_sizes", "_law_peeks", "_law_writes"] (spParts K) := by
  refine T.F__law_parts.ok sc_law_parts (fun vs H Q E h => ?_) (fun cdv A outer s H vs Q E hr h => ?_)
  · obtain ⟨st, sc, z, a0, a1, a2, a3, a4, pk, wr, rfl, _⟩ := h
    rfl
  obtain ⟨st, sc, z, a0, a1, a2, a3, a4, pk, wr, rfl, ok, hz, nz, a00, a01, a10, a11, a20, a21, a30, a31, a40, a41, q⟩ := h
  refine ⟨_, (pss_cons (ps_set (i := 4) sc_law_parts.nd rfl (Or.inl rfl) (pe_op op_add pe_int (pe_call G__law_draw (hr.mono (by omega)) rfl T.m__law_draw T.F__law_draw.kp T.b__law_draw .nil pass0 (pa_cons (pv 0) (pa_cons (pe_ix ix_tup (pv 1) pe_int (fun _ _ => rfl)) pa_nil)))))
    (pss_cons (ps_set (i := 5) sc_law_parts.nd rfl (Or.inl rfl) (pe_op op_add pe_int (pe_call G__law_draw (hr.mono (by omega)) rfl T.m__law_draw T.F__law_draw.kp T.b__law_draw .nil pass0 (pa_cons (pv 0) (pa_cons (pe_ix ix_tup (pv 1) pe_int (fun _ _ => rfl)) pa_nil)))))
    (pss_cons (ps_set (i := 6) sc_law_parts.nd rfl (Or.inl rfl) (pe_callB (call_max2 rfl) rfl T.z_max (by decide +kernel) (pa_cons (pe_call G__law_draw (hr.mono (by omega)) rfl T.m__law_draw T.F__law_draw.kp T.b__law_draw .nil pass0 (pa_cons (pv 0) (pa_cons (pe_op op_add (pe_ix ix_tup (pv 1) pe_int (fun _ _ => rfl)) pe_int) pa_nil))) (pa_cons (pe_call G__law_draw (hr.mono (by omega)) rfl T.m__law_draw T.F__law_draw.kp T.b__law_draw .nil pass0 (pa_cons (pv 0) (pa_cons (pe_op op_add (pe_ix ix_tup (pv 1) pe_int (fun _ _ => rfl)) pe_int) pa_nil))) pa_nil))))
    (pss_cons (ps_set (i := 7) sc_law_parts.nd rfl (Or.inl rfl) (pe_callB (call_max2 rfl) rfl T.z_max (by decide +kernel) (pa_cons (pe_call G__law_draw (hr.mono (by omega)) rfl T.m__law_draw T.F__law_draw.kp T.b__law_draw .nil pass0 (pa_cons (pv 0) (pa_cons (pe_op op_add (pe_ix ix_tup (pv 1) pe_int (fun _ _ => rfl)) pe_int) pa_nil))) (pa_cons (pe_call G__law_draw (hr.mono (by omega)) rfl T.m__law_draw T.F__law_draw.kp T.b__law_draw .nil pass0 (pa_cons (pv 0) (pa_cons (pe_op op_add (pe_ix ix_tup (pv 1) pe_int (fun _ _ => rfl)) pe_int) pa_nil))) pa_nil))))
    (pss_cons (ps_set (i := 8) sc_law_parts.nd rfl (Or.inl rfl) (pe_callTy call_tuple_of rfl T.z_tuple (by decide +kernel) (pa_cons (pe_call G__law_names (hr.mono (by omega)) rfl T.m__law_names T.F__law_names.kp T.b__law_names .nil pass0 (pa_cons (pv 0) (pa_cons (pv 4) pa_nil))) pa_nil)))
    (pss_cons (ps_set (i := 9) sc_law_parts.nd rfl (Or.inl rfl) (pe_call G__law_names (hr.mono (by omega)) rfl T.m__law_names T.F__law_names.kp T.b__law_names .nil pass0 (pa_cons (pv 0) (pa_cons (pe_op op_add (pe_op op_add (pv 5) (pv 6)) (pv 7)) pa_nil))))
    (C8.pss_cut (ps_if (PW.pt (pw_and (pt_cmpR op_eq (pe_call G__law_draw (hr.mono (by omega)) rfl T.m__law_draw T.F__law_draw.kp T.b__law_draw .nil pass0 (pa_cons (pv 0) (pa_cons pe_int pa_nil))) pe_int (nomark _)) (pw_and1 (pt_cmpR op_notIn_seq (pe_ix ix_list (pv 9) pe_int (fun _ _ => rfl)) (pv 8) (by rfl))))) (pss_one (ps_set (i := 8) sc_law_parts.nd rfl (Or.inl rfl) (pe_op op_catA (pe_slice sl_tupA (pv 8) (po_some pe_int) po_none) (pe_tup (pa_cons (pe_ix ix_list (pv 9) pe_int (fun _ _ => rfl)) pa_nil))))) pss_nil)
    (pss_cons (ps_set (i := 10) sc_law_parts.nd rfl (Or.inl rfl) (pe_op op_cat (pe_call G__law_names (hr.mono (by omega)) rfl T.m__law_names T.F__law_names.kp T.b__law_names .nil pass0 (pa_cons (pv 0) (pa_cons pe_int pa_nil))) (pe_lst (pa_cons (pe_ix ix_list (pv 9) pe_int (fun _ _ => rfl)) pa_nil))))
    (pss_cons (ps_set (i := 11) sc_law_parts.nd rfl (Or.inl rfl) (pe_callTy (T := "tuple") call_tuple_ofF rfl T.z_tuple (by decide +kernel) (pa_cons (pe_slice sl_list (pv 9) po_none (po_some (pv 5))) pa_nil)))
    (pss_cons (ps_set (i := 12) sc_law_parts.nd rfl (Or.inl rfl) (pe_disp (pps_cons pe_str pe_str (pps_cons pe_str (pe_callTy call_list_of rfl T.z_list (by decide +kernel) (pa_cons (pv 11) pa_nil)) (pps_cons pe_str (pv 11) (pps_cons pe_str (pv 10) (pps_cons pe_str (pv 8) pps_nil))))) (by rfl) (by rfl) (fun z => by cases z) (by decide)))
    (pss_cons (ps_dput (hu_of hr) (pv 12) pe_str pe_bl rfl)
    (pss_cons (ps_dput (hu_of hr) (pv 12) pe_str pe_bl rfl)
    (pss_cons (ps_set (i := 13) sc_law_parts.nd rfl (Or.inl rfl) (pe_lst pa_nil))
    (pss_cons (ps_for PassesOwn.never rfl (pi_range1 rfl T.z_range (pa_cons (pv 6) pa_nil)) (pg_name (i := 14) sc_law_parts.nd rfl (Or.inl rfl)) (pss_cons (ps_set (i := 15) sc_law_parts.nd rfl (Or.inl rfl) (pe_ix ix_list (pv 9) (pe_op op_add (pv 5) (pv 14)) (fun _ _ => rfl)))
    (pss_cons (ps_set (i := 16) sc_law_parts.nd rfl (Or.inl rfl) (pe_call G__law_rows (hr.mono (by omega)) rfl T.m__law_rows T.F__law_rows.kp T.b__law_rows .nil pass0 (pa_cons (pv 0) (pa_cons (pv 12) (pa_cons pe_int (pa_cons (pe_ix ix_tup (pv 1) pe_int (fun _ _ => rfl)) pa_nil))))))
    (C8.pss_cut (ps_if (pt_cmpR op_gt (pe_call G__law_draw (hr.mono (by omega)) rfl T.m__law_draw T.F__law_draw.kp T.b__law_draw .nil pass0 (pa_cons (pv 0) (pa_cons pe_int pa_nil))) pe_int (nomark _)) (pss_one (ps_set (i := 16) sc_law_parts.nd rfl (Or.inl rfl) (pe_op op_catA (pv 16) (pe_tup (pa_cons (pe_tup (pa_cons pe_str (pa_cons (pe_ix ix_list (pv 10) (pe_call G__law_draw (hr.mono (by omega)) rfl T.m__law_draw T.F__law_draw.kp T.b__law_draw .nil pass0 (pa_cons (pv 0) (pa_cons pe_int pa_nil))) (fun _ _ => rfl)) pa_nil))) pa_nil))))) pss_nil)
    (pss_cons (ps_expr (pe_bm PySem.F.plainAttrs_list PySem.F.slot_list_append PySem.F.type_list_append mt_append (pv 13) (pa_cons (pe_tup (pa_cons (pv 15) (pa_cons (pv 16) pa_nil))) pa_nil)))
    (pss_one (ps_dput (hu_of hr) (pv 12) pe_str (pe_op op_cat (pe_dget (hu_of hr) (pv 12) pe_str (fun _ _ => rfl)) (pe_lst (pa_cons (pv 15) pa_nil))) rfl)))))))
    (pss_cons (ps_dput (hu_of hr) (pv 12) pe_str pe_str rfl)
    (pss_cons (ps_dput (hu_of hr) (pv 12) pe_str (pv 2) rfl)
    (pss_cons (ps_dput (hu_of hr) (pv 12) pe_str (pv 3) rfl)
    (pss_cons (ps_set (i := 17) sc_law_parts.nd rfl (Or.inl rfl) (pe_lst pa_nil))
    (pss_cons (ps_for PassesOwn.never rfl (pi_range1 rfl T.z_range (pa_cons (pv 7) pa_nil)) (pg_name (i := 14) sc_law_parts.nd rfl (Or.inl rfl)) (pss_cons (ps_set (i := 16) sc_law_parts.nd rfl (Or.inl rfl) (pe_call G__law_rows (hr.mono (by omega)) rfl T.m__law_rows T.F__law_rows.kp T.b__law_rows .nil pass0 (pa_cons (pv 0) (pa_cons (pv 12) (pa_cons pe_int (pa_cons (pe_ix ix_tup (pv 1) pe_int (fun _ _ => rfl)) pa_nil))))))
    (C8.pss_cut (ps_if (pt_cmpR op_gt (pe_call G__law_draw (hr.mono (by omega)) rfl T.m__law_draw T.F__law_draw.kp T.b__law_draw .nil pass0 (pa_cons (pv 0) (pa_cons pe_int pa_nil))) pe_int (nomark _)) (pss_one (ps_set (i := 16) sc_law_parts.nd rfl (Or.inl rfl) (pe_op op_catA (pv 16) (pe_tup (pa_cons (pe_tup (pa_cons pe_str (pa_cons (pe_ix ix_list (pv 10) (pe_call G__law_draw (hr.mono (by omega)) rfl T.m__law_draw T.F__law_draw.kp T.b__law_draw .nil pass0 (pa_cons (pv 0) (pa_cons pe_int pa_nil))) (fun _ _ => rfl)) pa_nil))) pa_nil))))) pss_nil)
    (pss_one (ps_expr (pe_bm PySem.F.plainAttrs_list PySem.F.slot_list_append PySem.F.type_list_append mt_append (pv 17) (pa_cons (pe_tup (pa_cons (pe_ix ix_list (pv 9) (pe_op op_add (pe_op op_add (pv 5) (pv 6)) (pv 14)) (fun _ _ => rfl)) (pa_cons (pv 16) pa_nil))) pa_nil)))))))
    (pss_one (ps_ret (pe_tup (pa_cons (pv 8) (pa_cons (pv 11) (pa_cons (pe_callTy call_tuple_of rfl T.z_tuple (by decide +kernel) (pa_cons (pv 13) pa_nil)) (pa_cons (pe_callTy call_tuple_of rfl T.z_tuple (by decide +kernel) (pa_cons (pv 17) pa_nil)) pa_nil)))))))))))))))))))))))))), ?_⟩
  -- the four numbers
  refine ⟨_, rfl, _, rfl, z, _, 0, _, rfl, rfl, hz, rfl, st, sc, _, rfl, by omega, by omega, ok, fun mw H1 mw0 mw1 k1 o1 _ => ⟨_, _, rfl, rfl, ?_⟩⟩
  have z1 := SqT.keep k1 nz hz
  refine ⟨_, rfl, _, rfl, z, _, 1, _, rfl, rfl, z1, rfl, st, sc, _, rfl, by omega, by omega, o1, fun ms H2 ms0 ms1 k2 o2 _ => ⟨_, _, rfl, rfl, ?_⟩⟩
  have z2 := SqT.keep k2 nz z1
  refine ⟨_, rfl, _, rfl, z, _, 2, _, rfl, rfl, z2, rfl, _, _, rfl, rfl, st, sc, _, rfl, by omega, by omega, o2, fun d1 H3 d10 d11 k3 o3 _ => ?_⟩
  have z3 := SqT.keep k3 nz z2
  refine ⟨_, rfl, _, rfl, z, _, 2, _, rfl, rfl, z3, rfl, _, _, rfl, rfl, st, sc, _, rfl, by omega, by omega, o3, fun d2 H4 d20 d21 k4 o4 _ => ⟨_, _, rfl, ?_⟩⟩
  have z4 := SqT.keep k4 nz z3
  have md0 : 0 ≤ (if d2 > d1 then d2 else d1) ∧ (if d2 > d1 then d2 else d1) ≤ a2 := by split <;> omega
  generalize (if d2 > d1 then d2 else d1) = md at md0
  refine ⟨_, rfl, _, rfl, z, _, 3, _, rfl, rfl, z4, rfl, _, _, rfl, rfl, st, sc, _, rfl, by omega, by omega, o4, fun e1 H5 e10 e11 k5 o5 _ => ?_⟩
  have z5 := SqT.keep k5 nz z4
  refine ⟨_, rfl, _, rfl, z, _, 3, _, rfl, rfl, z5, rfl, _, _, rfl, rfl, st, sc, _, rfl, by omega, by omega, o5, fun e2 H6 e20 e21 k6 o6 _ => ⟨_, _, rfl, ?_⟩⟩
  have z6 := SqT.keep k6 nz z5
  have me0 : 0 ≤ (if e2 > e1 then e2 else e1) ∧ (if e2 > e1 then e2 else e1) ≤ a3 := by split <;> omega
  generalize (if e2 > e1 then e2 else e1) = me at me0
  have k06 : Keep st H H6 := k1.trans (k2.trans (k3.trans (k4.trans (k5.trans k6))))
  -- words, names
  refine ⟨_, rfl, _, rfl, st, sc, _, rfl, by omega, by omega, o6, fun pw ws H7 k7 o7 pw0 pws pwc pwL wl wN => ⟨pw, _, rfl, .inl ⟨SqL.of pwL, fun aw haw => ?_⟩⟩⟩
  have o8 : StOk (upd H7 aw (.tup (ws.map V.str))) st sc := o7.new haw
  have k8 : Keep st H (upd H7 aw (.tup (ws.map V.str))) := k06.trans (k7.trans (Keep.new haw))
  have w8 : SqT K (upd H7 aw (.tup (ws.map V.str))) aw (ws.map V.str) := SqT.of upd_same
  obtain ⟨naw, nawc⟩ := o7.ne haw
  show tSeq _ _ _ _ (upd H7 aw (.tup (ws.map V.str)))
  generalize upd H7 aw (.tup (ws.map V.str)) = H8 at o8 k8 w8
  refine ⟨_, rfl, _, rfl, _, rfl, _, _, rfl, rfl, _, rfl, _, _, rfl, rfl, st, sc, _, rfl, by omega, by omega, o8, fun pN ns H9 k9 o9 pN0 pNs pNc pNL nl nN => ?_⟩
  have k09 := k8.trans k9
  have w9 := SqT.keep k9 naw w8
  have z9 := SqT.keep k09 nz hz
  have hn0 : 0 < ns.length := by omega
  have n0at : atI (ns.map V.str) 0 = some (V.str ns[0]) := atI_nat (j := 0) (by rw [List.getElem?_map, List.getElem?_eq_getElem hn0]; rfl)
  -- the words may get the first name
  refine ⟨fun σ' H' => ∃ (aw : Addr) (ws : List Str), σ' = [some (.ref st), some (.ref z), some (.bl pk), some (.bl wr), some (.int (2 + mw)), some (.int (1 + ms)), some (.int md), some (.int me), some (.ref aw), some (.ref pN), none, none, none, none, none, none, none, none] ∧
    Keep st H H' ∧ StOk H' st sc ∧ SqT K H' aw (ws.map V.str) ∧ aw ≠ st ∧ H' pN = some (.lst (ns.map V.str)) ∧ (ws.length : Int) = 2 + mw ∧ Names ws, ?_, ?_⟩
  · refine ⟨_, rfl, st, sc, 4, rfl, by decide, by decide, o9, fun x H10 x0 x1 k10 o10 _ => ⟨rfl, _, rfl, ?_⟩⟩
    have w10 := SqT.keep k10 naw w9
    have L10 := k10 _ _ pNs pNL
    refine ite2 (fun _ => ?_) (fun _ => ⟨aw, ws, rfl, k09.trans k10, o10, w10, naw, L10, wl, wN⟩)
    refine ⟨_, rfl, pN, _, 0, _, rfl, rfl, SqL.of L10, n0at, _, rfl, aw, _, rfl, .inr w10, rfl, ?_, _, rfl, ?_⟩
    · exact L2.flat_strs ws
    refine ite2 (fun c => ?_) (fun _ => ⟨aw, ws, rfl, k09.trans k10, o10, w10, naw, L10, wl, wN⟩)
    have hnot : ns[0] ∉ ws := by
      have c' : (!inV (V.str ns[0]) (ws.map V.str)) = true := c
      rw [inV_strs] at c'
      simpa using c'
    have wsne : ws.map V.str ≠ [] := by
      intro e
      have := congrArg List.length e
      rw [List.length_map, List.length_nil] at this
      omega
    refine ⟨_, rfl, 1, rfl, aw, _, rfl, w10, fun hh => absurd hh (not_whole1 wsne none), fun _ p1 hp1 => ?_⟩
    have pN1 : upd H10 p1 (.tup (cutV (ws.map V.str) (some 1) none)) pN = some (.lst (ns.map V.str)) := by rw [upd_ne (ne_of_none L10 hp1)]; exact L10
    refine ⟨_, rfl, pN, _, 0, _, rfl, rfl, SqL.of pN1, n0at, by show 1 ≤ sizeLine; decide, fun p2 hp2 => ?_⟩
    have n12 : p1 ≠ p2 := fun e => by rw [← e, upd_same] at hp2; cases hp2
    have hp20 : H10 p2 = none := by rw [upd_ne (Ne.symm n12)] at hp2; exact hp2
    have drop_ne : cutV (ws.map V.str) (some 1) none ≠ [] := by
      rw [cut_from1]
      intro e
      have := congrArg List.length e
      rw [List.length_drop, List.length_map, List.length_nil] at this
      omega
    refine ⟨p1, p2, _, _, rfl, rfl, SqT.of (by rw [upd_ne n12, upd_same]), SqT.of upd_same, Nat.le_of_lt (small1000 ?_), fun e => absurd e drop_ne, fun _ e => (by cases e), fun _ _ p3 hp3 => ?_⟩
    · rw [cut_from1, List.length_drop, List.length_map]; show ws.length - 1 + 1 ≤ 1000; omega
    have k13 : Keep st H (upd (upd (upd H10 p1 (.tup (cutV (ws.map V.str) (some 1) none))) p2 (.tup [V.str ns[0]])) p3 (.tup (cutV (ws.map V.str) (some 1) none ++ [V.str ns[0]]))) :=
      (((k09.trans k10).trans (Keep.new hp1)).trans (Keep.new hp2)).trans (Keep.new hp3)
    have o13 := ((o10.new hp1 (o := .tup (cutV (ws.map V.str) (some 1) none))).new hp2 (o := .tup [V.str ns[0]])).new hp3 (o := .tup (cutV (ws.map V.str) (some 1) none ++ [V.str ns[0]]))
    refine ⟨p3, ws.drop 1 ++ [ns[0]], rfl, k13, o13, ?_, (((o10.new hp1).new hp2).ne hp3).1, ?_, ?_, wN.turn (nN.good _ (List.getElem_mem hn0)) hnot⟩
    · rw [cut_from1]
      have e : (ws.drop 1 ++ [ns[0]]).map V.str = (ws.map V.str).drop 1 ++ [V.str ns[0]] := by rw [List.map_append, List.map_drop]; rfl
      rw [e]
      exact SqT.of upd_same
    · rw [upd_ne (ne_of_none (by rw [upd_ne (ne_of_none pN1 hp2)]; exact pN1) hp3), upd_ne (ne_of_none pN1 hp2)]; exact pN1
    · rw [List.length_append, List.length_drop]; show ((ws.length - 1 + 1 : Nat) : Int) = 2 + mw; omega
  · clear wl wN w9 w8 naw nawc haw aw ws pwL pws pw0 pwc
    rintro σ' H11 ⟨aw, ws, rfl, k11, o11, w11, naw, L11, wl, wN⟩
    -- slots
    refine ⟨_, rfl, st, sc, _, rfl, by decide, by decide, o11, fun pS ss H12 k12 o12 pS0 pSs pSc pSL sl sN => ?_⟩
    have L12 := k12 _ _ pNs L11
    refine ⟨_, rfl, pN, _, 0, _, rfl, rfl, SqL.of L12, n0at, by show 1 ≤ sizeLine; decide, fun p1 hp1 => ?_⟩
    refine ⟨pS, p1, _, _, rfl, rfl, by rw [upd_ne (ne_of_none pSL hp1)]; exact pSL, upd_same, Nat.le_of_lt (small1000 (by rw [List.length_map]; show ss.length + 1 ≤ 1000; omega)), fun p2 hp2 => ?_⟩
    have k13 : Keep st H11 (upd (upd H12 p1 (.lst [V.str ns[0]])) p2 (.lst (ss.map V.str ++ [V.str ns[0]]))) := k12.trans ((Keep.new hp1).trans (Keep.new hp2))
    have o13 := (o12.new hp1 (o := .lst [V.str ns[0]])).new hp2 (o := .lst (ss.map V.str ++ [V.str ns[0]]))
    obtain ⟨np2, np2c⟩ := (o12.new hp1 (o := .lst [V.str ns[0]])).ne hp2
    have es : ss.map V.str ++ [V.str ns[0]] = (ss ++ [ns[0]]).map V.str := by rw [List.map_append]; rfl
    have S13 : upd (upd H12 p1 (.lst [V.str ns[0]])) p2 (.lst (ss.map V.str ++ [V.str ns[0]])) p2 = some (.lst ((ss ++ [ns[0]]).map V.str)) := by rw [upd_same, es]
    have slg : ∀ y ∈ ss ++ [ns[0]], isNm y = true := fun y hy => by
      rcases List.mem_append.mp hy with h | h
      · exact sN.good y h
      · rw [List.mem_singleton.mp h]; exact nN.good _ (List.getElem_mem hn0)
    have sln : (ss ++ [ns[0]]).length = 3 := by rw [List.length_append]; show ss.length + 1 = 3; omega
    show tSeq _ _ _ _ (upd (upd H12 p1 (.lst [V.str ns[0]])) p2 (.lst (ss.map V.str ++ [V.str ns[0]])))
    generalize upd (upd H12 p1 (.lst [V.str ns[0]])) p2 (.lst (ss.map V.str ++ [V.str ns[0]])) = H13 at k13 o13 S13
    generalize ss ++ [ns[0]] = slots at S13 slg sln
    -- sources
    have L13 := k13 _ _ pNs L11
    have msn : ((1 + ms).toNat : Nat) ≤ ns.length := by omega
    have ecut : cutV (ns.map V.str) none (some (1 + ms)) = (ns.take (1 + ms).toNat).map V.str := by
      have := cut_to (ns.map V.str) (1 + ms).toNat (by rw [List.length_map]; omega)
      rw [show (((1 + ms).toNat : Nat) : Int) = 1 + ms by omega] at this
      rw [this, List.map_take]
    refine ⟨_, rfl, _, rfl, _, rfl, pN, _, rfl, SqL.of L13, fun p3 hp3 => ⟨p3, _, rfl, SqL.of upd_same, fun o4 p4 od4 hp4 => ?_⟩⟩
    rw [ecut] at hp4 ⊢
    have k14 : Keep st H13 (upd (upd H13 p3 (.lst ((ns.take (1 + ms).toNat).map V.str))) p4 (.frz o4 (.tup ((ns.take (1 + ms).toNat).map V.str)))) := (Keep.new hp3).trans (Keep.new hp4)
    have o14 := (o13.new hp3 (o := .lst ((ns.take (1 + ms).toNat).map V.str))).new hp4 (o := .frz o4 (.tup ((ns.take (1 + ms).toNat).map V.str)))
    have S14 : FzT (upd (upd H13 p3 (.lst ((ns.take (1 + ms).toNat).map V.str))) p4 (.frz o4 (.tup ((ns.take (1 + ms).toNat).map V.str)))) p4 ((ns.take (1 + ms).toNat).map V.str) := ⟨o4, upd_same, od4⟩
    obtain ⟨np4, np4c⟩ := (o13.new hp3 (o := .lst ((ns.take (1 + ms).toNat).map V.str))).ne hp4
    have srl : (ns.take (1 + ms).toNat).length = (1 + ms).toNat := by rw [List.length_take]; omega
    show tSeq _ _ _ _ (upd (upd H13 p3 (.lst ((ns.take (1 + ms).toNat).map V.str))) p4 (.frz o4 (.tup ((ns.take (1 + ms).toNat).map V.str))))
    generalize upd (upd H13 p3 (.lst ((ns.take (1 + ms).toNat).map V.str))) p4 (.frz o4 (.tup ((ns.take (1 + ms).toNat).map V.str))) = H14 at k14 o14 S14
    -- the shape
    refine fun pd hpd => ?_
    obtain ⟨npd, npdc⟩ := o14.ne hpd
    refine ⟨_, rfl, p4, _, rfl, .inr (SqT.same (Same.new hpd _) S14.sq), fun p5 hp5 => ?_⟩
    have np5 : p5 ≠ pd := fun e => by rw [e, upd_same] at hp5; cases hp5
    have hp50 : H14 p5 = none := by rw [upd_ne np5] at hp5; exact hp5
    obtain ⟨np5s, np5c⟩ := o14.ne hp50
    refine ⟨_, rfl, _, rfl, _, rfl, by rw [upd_ne (Ne.symm np5), upd_same], shp (.str "derived") (.ref p5) (.ref p4) (.ref p2) (.ref aw), rfl, by show 5 ≤ 15; decide, ?_⟩
    rw [shp_merge]
    refine ⟨_, rfl, pd, _, rfl, DPut.k (k := Sum.inr "peeks") upd_same (small1000 (by show 5 ≤ 1000; decide)), ?_⟩
    rw [shp_peeks, upd_upd]
    refine ⟨_, rfl, pd, _, rfl, DPut.k (k := Sum.inr "writes") upd_same (small1000 (by show 6 ≤ 1000; decide)), ?_⟩
    rw [shp_writes, upd_upd]
    -- derived = []
    refine ⟨Nat.zero_le _, fun pD hpD => ?_⟩
    generalize hse : ns.take (1 + ms).toNat = srcs at S14 srl hpD hp5 ⊢
    have k1114 := k13.trans k14
    have k1014 := k11.trans k1114
    have d0 : H pd = none := k1014.free npd hpd
    have k15 : Keep st H14 (upd (upd (upd H14 pd (.dK [])) p5 (.lst (srcs.map V.str))) pd (.dK (shp7 (.str "derived") (.ref p5) (.ref p4) (.ref p2) (.ref aw) (.bl false) (.bl false)))) :=
      ((Keep.new hpd).trans (Keep.new hp5)).own hpd
    have o15 : StOk (upd (upd (upd H14 pd (.dK [])) p5 (.lst (srcs.map V.str))) pd (.dK (shp7 (.str "derived") (.ref p5) (.ref p4) (.ref p2) (.ref aw) (.bl false) (.bl false)))) st sc :=
      ((o14.new hpd).new hp5).other npd npdc
    have dd15 : upd (upd (upd H14 pd (.dK [])) p5 (.lst (srcs.map V.str))) pd (.dK (shp7 (.str "derived") (.ref p5) (.ref p4) (.ref p2) (.ref aw) (.bl false) (.bl false))) pd = some (.dK (shp7 (.str "derived") (.ref p5) (.ref p4) (.ref p2) (.ref aw) (.bl false) (.bl false))) := upd_same
    have pc15 : upd (upd (upd H14 pd (.dK [])) p5 (.lst (srcs.map V.str))) pd (.dK (shp7 (.str "derived") (.ref p5) (.ref p4) (.ref p2) (.ref aw) (.bl false) (.bl false))) p5 = some (.lst (srcs.map V.str)) := by rw [upd_ne np5, upd_same]
    generalize upd (upd (upd H14 pd (.dK [])) p5 (.lst (srcs.map V.str))) pd (.dK (shp7 (.str "derived") (.ref p5) (.ref p4) (.ref p2) (.ref aw) (.bl false) (.bl false))) = H15 at k15 o15 dd15 pc15 hpD ⊢
    have k1115 := k1114.trans k15
    have kH15 := k1014.trans k15
    obtain ⟨npD, npDc⟩ := o15.ne hpD
    have D0 : H pD = none := kH15.free npD hpD
    have L15 := k1115 _ _ pNs L11
    have S15 := (k14.trans k15) _ _ np2 S13
    have ne : PNe H st sc aw pN p2 p4 pd pD := ⟨naw, pNs, np2, np4, npd, npD, npdc, npDc, d0, D0, ne_of_none L15 hpD, ne_of_none S15 hpD⟩
    have ps0 : PSt K H (upd H15 pD (.lst [])) st sc aw pN p2 p4 pd pD ws srcs slots ns (.str "derived") (.bl false) (.bl false) srcs [] [] :=
      ⟨kH15.trans (Keep.new hpD), o15.new hpD, SqT.keep (k1115.trans (Keep.new hpD)) naw w11, FzT.keep (k15.trans (Keep.new hpD)) np4 S14, (Keep.new hpD) _ _ pNs L15, (Keep.new hpD) _ _ np2 S15,
        ⟨p5, (Keep.new hpD) _ _ npd dd15, (Keep.new hpD) _ _ np5s pc15, np5s, ne_of_none pc15 hpD⟩, upd_same, .nil⟩
    have w0 : ws ≠ [] := fun e => by rw [e] at wl; simp at wl; omega
    have sl0 : slots ≠ [] := fun e => by rw [e] at sln; simp at sln
    have so0 : srcs ≠ [] := fun e => by rw [e] at srl; simp at srl; omega
    have w100 : ws.length ≤ 100 := by omega
    have sr100 : srcs.length ≤ 100 := by omega
    -- the derived cells
    refine ⟨_, rfl, md, rfl, by omega, by omega, for_range (lo := 0) (n := md.toNat) (fun i σ H' => ∃ (v14 v15 v16 : Option V) (xs : List V) (ds : List (Str × List Td.Row)),
      σ = [some (.ref st), some (.ref z), some (.bl pk), some (.bl wr), some (.int (2 + mw)), some (.int (1 + ms)), some (.int md), some (.int me), some (.ref aw), some (.ref pN), some (.ref p2), some (.ref p4), some (.ref pd), some (.ref pD), v14, v15, v16, none] ∧
      PSt K H H' st sc aw pN p2 p4 pd pD ws srcs slots ns (.str "derived") (.bl false) (.bl false) (srcs ++ ds.map (·.1)) xs ds ∧ ds.length = i ∧ ds.map (·.1) = (ns.drop (1 + ms).toNat).take i ∧ okDer ws srcs (a4.toNat + 1) srcs ds)
      ⟨none, none, none, [], [], rfl, by simpa using ps0, rfl, by simp, by unfold okDer; trivial⟩ ?_ ?_⟩
    · rintro i σ H1 hi ⟨v14, v15, v16, xs, ds, rfl, ps, dl, dn, dok⟩
      have hil : (1 + ms).toNat + i < ns.length := by omega
      have hat : atI (ns.map V.str) (1 + ms + (0 + (i : Int))) = some (V.str ns[(1 + ms).toNat + i]) := by
        have : atI (ns.map V.str) (((1 + ms).toNat + i : Nat) : Int) = some (V.str ns[(1 + ms).toNat + i]) := atI_nat (by rw [List.getElem?_map, List.getElem?_eq_getElem hil]; rfl)
        rwa [show (((1 + ms).toNat + i : Nat) : Int) = 1 + ms + (0 + (i : Int)) by omega] at this
      refine ⟨_, rfl, _, rfl, _, rfl, _, _, rfl, rfl, pN, _, _, _, rfl, rfl, SqL.of ps.nA, hat, ?_⟩
      generalize hnm : ns[(1 + ms).toNat + i] = nm at hat
      have xl : xs.length = ds.length := by rw [ps.tA.length, List.length_map]
      have sh := ps.shape (eff := false) ne (fun h => nomatch h) (fun h => nomatch h) w0 sl0 (by simp [so0]) so0 ⟨w100, by omega, by rw [List.length_append, List.length_map]; omega, sr100⟩ slg
      refine ⟨_, rfl, _, rfl, _, rfl, z, _, 4, _, rfl, rfl, SqT.keep ps.kp nz hz, rfl, st, sc, pd, _, slots, 1, a4, rfl, ps.ok, sh, by decide, by decide, a40, by omega, fun rv rs H2 k2 o2 okr cr tr => ?_⟩
      have ps2 := ps.keep ne k2 o2
      refine ⟨fun σ' H' => ∃ (rv' : V) (rs' : List Td.Row), σ' = [some (.ref st), some (.ref z), some (.bl pk), some (.bl wr), some (.int (2 + mw)), some (.int (1 + ms)), some (.int md), some (.int me), some (.ref aw), some (.ref pN), some (.ref p2), some (.ref p4), some (.ref pd), some (.ref pD), some (.int (0 + (i : Int))), some (.str nm), some rv', none] ∧
        PSt K H H' st sc aw pN p2 p4 pd pD ws srcs slots ns (.str "derived") (.bl false) (.bl false) (srcs ++ ds.map (·.1)) xs ds ∧ okRs ⟨false, ws, srcs, srcs ++ ds.map (·.1)⟩ 1 rs' ∧ Lim false (a4.toNat + 1) rs' ∧ Tn K H' rv' (.tuple (rowsD rs')), ?_, ?_⟩
      · refine ⟨_, rfl, st, sc, 4, rfl, by decide, by decide, o2, fun x H3 x0 x1 k3 o3 _ => ⟨_, _, rfl, rfl, _, rfl, ?_⟩⟩
        have ps3 := ps2.keep ne k3 o3
        have tr3 := Tn.keep (TK.of_keep k3 o2.chg) tr
        refine ite2 (fun _ => ?_) (fun _ => ⟨rv, rs, rfl, ps3, okr, ⟨by omega, rs, [], (List.append_nil rs).symm, by omega, .inl rfl⟩, tr3⟩)
        obtain ⟨ar, ys, rfl, hS3, hT3⟩ := Tn.tup_inv tr3
        have yl : ys.length = rs.length := by rw [hT3.length, rowsD_length]
        have := cnts_len rs
        refine ⟨_, rfl, _, rfl, _, rfl, st, sc, 3, rfl, by decide, by decide, o3, fun y H4 y0 y1 k4 o4 _ => ?_⟩
        have ps4 := ps3.keep ne k4 o4
        obtain ⟨sl, hsl, esl⟩ := pick (xs := slots) y0 (by rw [List.length_map]; omega)
        refine ⟨p2, _, y, _, rfl, rfl, SqL.of ps4.lA, esl, by show 2 ≤ sizeLine; decide, fun t1 ht1 => ⟨by show 1 ≤ sizeLine; decide, fun t2 ht2 => ?_⟩⟩
        have g1 : Tn K (upd H4 t1 (.tup [.str "give", .str sl])) (.ref t1) (rowD (.give sl)) := by unfold rowD; exact Tn.new (TnAll.strs ["give", sl]) ht1
        have g2 := Tn.new (TnAll.one g1) ht2
        have ps5 := (ps4.new ne ht1 (o := .tup [.str "give", .str sl])).new ne ht2 (o := .tup [.ref t1])
        have tkx : TK H3 (upd (upd H4 t1 (.tup [.str "give", .str sl])) t2 (.tup [.ref t1])) := ((TK.of_keep k4 o3.chg).trans (TK.of_same (Same.new ht1 _))).trans (TK.of_same (Same.new ht2 _))
        have okg : okRs ⟨false, ws, srcs, srcs ++ ds.map (·.1)⟩ 1 (rs ++ [Td.Row.give sl]) := okRs_append okr (okRs_one (by unfold okR; exact ⟨rfl, slg sl hsl⟩))
        have cg : Lim false (a4.toNat + 1) (rs ++ [Td.Row.give sl]) := ⟨by rw [cnts_append, cnts_one]; show cnts rs + 1 ≤ _; omega, rs, [.give sl], rfl, by omega, .inr ⟨sl, rfl⟩⟩
        refine ⟨ar, t2, ys, [.ref t1], rfl, rfl, SqT.tk tkx hS3, SqT.of upd_same, Nat.le_of_lt (small1000 (by show ys.length + 1 ≤ 1000; omega)), fun e => ?_, fun _ e => (by cases e), fun _ _ t3 ht3 => ?_⟩
        · have er : rs = [] := by
            rw [e] at yl
            exact List.length_eq_zero_iff.mp yl.symm
          refine ⟨_, rs ++ [.give sl], rfl, ps5, okg, cg, ?_⟩
          rw [er]
          exact g2
        · refine ⟨_, rs ++ [.give sl], rfl, ps5.new ne ht3, okg, cg, ?_⟩
          rw [rowsD_append, rowsD_one]
          exact Tn.new (TnAll.append (TnAll.keep tkx hT3) (TnAll.one (Tn.keep (TK.of_same (Same.new ht2 _)) g1))) ht3
      · rintro σ' H3 ⟨rv', rs', rfl, ps3, okr', cr', tr'⟩
        refine ⟨_, rfl, .inl ⟨rfl, _, SqL.of ps3.xA⟩, _, rfl, _, rfl, by show 2 ≤ sizeLine; decide, fun t ht => ?_⟩
        have ps4 := ps3.new ne ht (o := .tup [.str nm, rv'])
        have tp : Tn K (upd H3 t (.tup [.str nm, rv'])) (.ref t) (Td.pairD (nm, rs')) := Tn.new (.cons (.str nm) (TnAll.one tr')) ht
        refine ⟨pD, _, _, rfl, rfl, ps4.xA, small1000 (by omega), ?_⟩
        have ps5 := ps4.app ne tp
        obtain ⟨pc, c1, c2, c3, c4⟩ := ps5.dA
        refine ⟨_, rfl, pd, _, rfl, dget_of c1 (get_cells ..), _, rfl, by show 1 ≤ sizeLine; decide, fun l hl => ?_⟩
        have ps6 := ps5.new ne hl (o := .lst [.str nm])
        refine ⟨pc, l, _, _, rfl, rfl, by rw [upd_ne (ne_of_none c2 hl)]; exact c2, upd_same, Nat.le_of_lt (small1000 ?_), fun l2 hl2 => ?_⟩
        · rw [List.length_map, List.length_append, List.length_map]; show srcs.length + ds.length + 1 ≤ 1000; omega
        have ps7 := ps6.new ne hl2 (o := .lst ((srcs ++ ds.map (·.1)).map V.str ++ [.str nm]))
        obtain ⟨pc', e1, e2, e3, e4⟩ := ps7.dA
        refine ⟨_, rfl, pd, _, rfl, DPut.k (k := Sum.inr "cells") e1 (small1000 (by show 7 ≤ 1000; decide)), ?_⟩
        rw [shp7_cells]
        have er : (srcs ++ ds.map (·.1)).map V.str ++ [V.str nm] = (srcs ++ (ds ++ [(nm, rs')]).map (·.1)).map V.str := by simp
        have ps8 := ps7.put (kd' := .str "derived") (pk' := .bl false) (wr' := .bl false) (rd' := srcs ++ (ds ++ [(nm, rs')]).map (·.1)) (pc' := l2) ne (by rw [upd_same, er])
          (ps6.ok.ne hl2).1 (Ne.symm (ne_of_none ps6.xA hl2))
        refine ⟨_, _, _, _, ds ++ [(nm, rs')], rfl, ps8, by rw [List.length_append, dl]; rfl, ?_, okDer_snoc dok okr' cr'⟩
        rw [List.map_append, dn]
        have hx : i < (ns.drop (1 + ms).toNat).length := by rw [List.length_drop]; omega
        rw [List.take_succ_eq_append_getElem hx, List.getElem_drop, hnm]
        rfl
    · rintro σ H1 ⟨v14, v15, v16, xs, ds, rfl, ps, dl, dn, dok⟩
      -- the shape of effects
      obtain ⟨pc, c1, c2, c3, c4⟩ := ps.dA
      refine ⟨_, rfl, pd, _, rfl, DPut.k (k := Sum.inr "kind") c1 (small1000 (by show 7 ≤ 1000; decide)), ?_⟩
      rw [shp7_kind]
      have ps1 := ps.put (kd' := .str "effects") (pk' := .bl false) (wr' := .bl false) ne c2 c3 c4
      refine ⟨_, rfl, _, rfl, pd, _, rfl, DPut.k (k := Sum.inr "peeks") upd_same (small1000 (by show 7 ≤ 1000; decide)), ?_⟩
      rw [shp7_peeks, upd_upd]
      refine ⟨_, rfl, _, rfl, pd, _, rfl, DPut.k (k := Sum.inr "writes") upd_same (small1000 (by show 7 ≤ 1000; decide)), ?_⟩
      rw [shp7_writes, upd_upd]
      have ps3 := ps.put (kd' := .str "effects") (pk' := .bl pk) (wr' := .bl wr) ne c2 c3 c4
      refine ⟨Nat.zero_le _, fun pE hpE => ?_⟩
      show tSeq _ _ _ _ (upd (upd H1 pd (.dK (shp7 (.str "effects") (.ref pc) (.ref p4) (.ref p2) (.ref aw) (.bl pk) (.bl wr)))) pE (.lst []))
      generalize upd H1 pd (.dK (shp7 (.str "effects") (.ref pc) (.ref p4) (.ref p2) (.ref aw) (.bl pk) (.bl wr))) = H2 at ps3 hpE
      obtain ⟨npE, npEc⟩ := ps3.ok.ne hpE
      have nDE : pD ≠ pE := ne_of_none ps3.xA hpE
      have nE : PNe H st sc aw pN p2 p4 pd pE := ⟨naw, pNs, np2, np4, npd, npE, npdc, npEc, d0, ps3.kp.free npE hpE, ne_of_none ps3.nA hpE, ne_of_none ps3.lA hpE⟩
      have pe0 : PSt K H (upd H2 pE (.lst [])) st sc aw pN p2 p4 pd pE ws srcs slots ns (.str "effects") (.bl pk) (.bl wr) (srcs ++ ds.map (·.1)) [] [] := by
        have pn := ps3.new ne hpE (o := .lst [])
        obtain ⟨pc', e1, e2, e3, e4⟩ := ps3.dA
        exact ⟨pn.kp, pn.ok, pn.wA, pn.sA, pn.nA, pn.lA, ⟨pc', (Keep.new hpE (st := st)) _ _ npd e1, (Keep.new hpE (st := st)) _ _ e3 e2, e3, ne_of_none e2 hpE⟩, upd_same, .nil⟩
      have xl : xs.length = ds.length := by rw [ps.tA.length, List.length_map]
      have ddl : ds.length ≤ 6 := by omega
      refine ⟨_, rfl, me, rfl, by omega, by omega, for_range (lo := 0) (n := me.toNat) (fun i σ H' => ∃ (v14 v16 : Option V) (ys : List V) (es : List (Str × List Td.Row)),
        σ = [some (.ref st), some (.ref z), some (.bl pk), some (.bl wr), some (.int (2 + mw)), some (.int (1 + ms)), some (.int md), some (.int me), some (.ref aw), some (.ref pN), some (.ref p2), some (.ref p4), some (.ref pd), some (.ref pD), v14, v15, v16, some (.ref pE)] ∧
        PSt K H H' st sc aw pN p2 p4 pd pE ws srcs slots ns (.str "effects") (.bl pk) (.bl wr) (srcs ++ ds.map (·.1)) ys es ∧ H' pD = some (.lst xs) ∧ TnAll K H' xs (ds.map Td.pairD) ∧ es.length = i ∧ es.map (·.1) = (ns.drop ((1 + ms).toNat + md.toNat)).take i ∧ okEff ws srcs (srcs ++ ds.map (·.1)) (a4.toNat + 1) es)
        ⟨v14, v16, [], [], rfl, pe0, by rw [upd_ne nDE]; exact ps3.xA, TnAll.keep (TK.of_same (Same.new hpE _)) ps3.tA, rfl, by simp, by unfold okEff; trivial⟩ ?_ ?_⟩
      · rintro i σ H3 hi ⟨v14, v16, ys, es, rfl, pe, sX, sT, el, en, eok⟩
        have hil : (1 + ms).toNat + md.toNat + i < ns.length := by omega
        have hat : atI (ns.map V.str) (1 + ms + md + (0 + (i : Int))) = some (V.str ns[(1 + ms).toNat + md.toNat + i]) := by
          have : atI (ns.map V.str) (((1 + ms).toNat + md.toNat + i : Nat) : Int) = some (V.str ns[(1 + ms).toNat + md.toNat + i]) := atI_nat (by rw [List.getElem?_map, List.getElem?_eq_getElem hil]; rfl)
          rwa [show (((1 + ms).toNat + md.toNat + i : Nat) : Int) = 1 + ms + md + (0 + (i : Int)) by omega] at this
        generalize hnm : ns[(1 + ms).toNat + md.toNat + i] = nm at hat
        have yl : ys.length = es.length := by rw [pe.tA.length, List.length_map]
        have sh := pe.shape (eff := true) nE (fun _ => rfl) (fun _ => rfl) w0 sl0 (by simp [so0]) so0 ⟨w100, by omega, by rw [List.length_append, List.length_map]; omega, sr100⟩ slg
        refine ⟨_, rfl, _, rfl, _, rfl, z, _, 4, _, rfl, rfl, SqT.keep pe.kp nz hz, rfl, st, sc, pd, _, slots, 1, a4, rfl, pe.ok, sh, by decide, by decide, a40, by omega, fun rv rs H4 k4 o4 okr cr tr => ?_⟩
        have pe4 := pe.keep nE k4 o4
        have sX4 := k4 _ _ npD sX
        have sT4 := TnAll.keep (TK.of_keep k4 pe.ok.chg) sT
        refine ⟨fun σ' H' => ∃ (rv' : V) (rs' : List Td.Row), σ' = [some (.ref st), some (.ref z), some (.bl pk), some (.bl wr), some (.int (2 + mw)), some (.int (1 + ms)), some (.int md), some (.int me), some (.ref aw), some (.ref pN), some (.ref p2), some (.ref p4), some (.ref pd), some (.ref pD), some (.int (0 + (i : Int))), v15, some rv', some (.ref pE)] ∧
          PSt K H H' st sc aw pN p2 p4 pd pE ws srcs slots ns (.str "effects") (.bl pk) (.bl wr) (srcs ++ ds.map (·.1)) ys es ∧ H' pD = some (.lst xs) ∧ TnAll K H' xs (ds.map Td.pairD) ∧ okRs ⟨true, ws, srcs, srcs ++ ds.map (·.1)⟩ 1 rs' ∧ Lim true (a4.toNat + 1) rs' ∧ Tn K H' rv' (.tuple (rowsD rs')), ?_, ?_⟩
        · refine ⟨_, rfl, st, sc, 4, rfl, by decide, by decide, o4, fun x H5 x0 x1 k5 o5 _ => ⟨_, _, rfl, rfl, _, rfl, ?_⟩⟩
          have pe5 := pe4.keep nE k5 o5
          have tr5 := Tn.keep (TK.of_keep k5 o4.chg) tr
          have sX5 := k5 _ _ npD sX4
          have sT5 := TnAll.keep (TK.of_keep k5 o4.chg) sT4
          refine ite2 (fun _ => ?_) (fun _ => ⟨rv, rs, rfl, pe5, sX5, sT5, okr, ⟨by omega, rs, [], (List.append_nil rs).symm, by omega, .inl rfl⟩, tr5⟩)
          obtain ⟨ar, us, rfl, hS5, hT5⟩ := Tn.tup_inv tr5
          have ul : us.length = rs.length := by rw [hT5.length, rowsD_length]
          have := cnts_len rs
          refine ⟨_, rfl, _, rfl, _, rfl, st, sc, 3, rfl, by decide, by decide, o5, fun y H6 y0 y1 k6 o6 _ => ?_⟩
          have pe6 := pe5.keep nE k6 o6
          obtain ⟨sl, hsl, esl⟩ := pick (xs := slots) y0 (by rw [List.length_map]; omega)
          refine ⟨p2, _, y, _, rfl, rfl, SqL.of pe6.lA, esl, by show 2 ≤ sizeLine; decide, fun t1 ht1 => ⟨by show 1 ≤ sizeLine; decide, fun t2 ht2 => ?_⟩⟩
          have g1 : Tn K (upd H6 t1 (.tup [.str "say", .str sl])) (.ref t1) (rowD (.say sl)) := by unfold rowD; exact Tn.new (TnAll.strs ["say", sl]) ht1
          have g2 := Tn.new (TnAll.one g1) ht2
          have pe7 := (pe6.new nE ht1 (o := .tup [.str "say", .str sl])).new nE ht2 (o := .tup [.ref t1])
          have kx : Keep st H5 (upd (upd H6 t1 (.tup [.str "say", .str sl])) t2 (.tup [.ref t1])) := (k6.trans (Keep.new ht1)).trans (Keep.new ht2)
          have tkx := TK.of_keep kx o5.chg
          have sX7 := kx _ _ npD sX5
          have sT7 := TnAll.keep tkx sT5
          have okg : okRs ⟨true, ws, srcs, srcs ++ ds.map (·.1)⟩ 1 (rs ++ [Td.Row.say sl]) := okRs_append okr (okRs_one (by unfold okR; exact ⟨rfl, slg sl hsl⟩))
          have cg : Lim true (a4.toNat + 1) (rs ++ [Td.Row.say sl]) := ⟨by rw [cnts_append, cnts_one]; show cnts rs + 1 ≤ _; omega, rs, [.say sl], rfl, by omega, .inr ⟨sl, rfl⟩⟩
          refine ⟨ar, t2, us, [.ref t1], rfl, rfl, SqT.tk tkx hS5, SqT.of upd_same, Nat.le_of_lt (small1000 (by show us.length + 1 ≤ 1000; omega)), fun e => ?_, fun _ e => (by cases e), fun _ _ t3 ht3 => ?_⟩
          · have er : rs = [] := by
              rw [e] at ul
              exact List.length_eq_zero_iff.mp ul.symm
            refine ⟨_, rs ++ [.say sl], rfl, pe7, sX7, sT7, okg, cg, ?_⟩
            rw [er]
            exact g2
          · refine ⟨_, rs ++ [.say sl], rfl, pe7.new nE ht3, (Keep.new ht3 (st := st)) _ _ npD sX7, TnAll.keep (TK.of_same (Same.new ht3 _)) sT7, okg, cg, ?_⟩
            rw [rowsD_append, rowsD_one]
            exact Tn.new (TnAll.append (TnAll.keep tkx hT5) (TnAll.one (Tn.keep (TK.of_same (Same.new ht2 _)) g1))) ht3
        · rintro σ' H5 ⟨rv', rs', rfl, pe5, sX5, sT5, okr', cr', tr'⟩
          refine ⟨_, rfl, .inl ⟨rfl, _, SqL.of pe5.xA⟩, _, rfl, _, rfl, _, rfl, _, _, rfl, rfl, _, rfl, _, _, rfl, rfl, pN, _, _, _, rfl, rfl, SqL.of pe5.nA, hat, _, rfl, by show 2 ≤ sizeLine; decide, fun t ht => ?_⟩
          have pe6 := pe5.new nE ht (o := .tup [.str nm, rv'])
          have tp : Tn K (upd H5 t (.tup [.str nm, rv'])) (.ref t) (Td.pairD (nm, rs')) := Tn.new (.cons (.str nm) (TnAll.one tr')) ht
          refine ⟨pE, _, _, rfl, rfl, pe6.xA, small1000 (by omega), ?_⟩
          have pe7 := pe6.app nE tp
          have sX6 : upd H5 t (.tup [.str nm, rv']) pD = some (.lst xs) := (Keep.new ht (st := st)) _ _ npD sX5
          have sT6 := TnAll.keep (TK.of_same (Same.new ht (.tup [.str nm, rv']))) sT5
          refine ⟨_, _, _, es ++ [(nm, rs')], rfl, pe7, by rw [upd_ne nDE]; exact sX6, TnAll.keep (TK.upd (by rw [pe6.xA]; trivial)) sT6, by rw [List.length_append, el]; rfl, ?_, okEff_snoc eok okr' cr'⟩
          rw [List.map_append, en]
          have hx : i < (ns.drop ((1 + ms).toNat + md.toNat)).length := by rw [List.length_drop]; omega
          rw [List.take_succ_eq_append_getElem hx, List.getElem_drop, hnm]
          rfl
      · rintro σ H3 ⟨v14, v16, ys, es, rfl, pe, sX, sT, el, en, eok⟩
        have yl : ys.length = es.length := by rw [pe.tA.length, List.length_map]
        refine ⟨_, rfl, _, rfl, _, rfl, pD, _, rfl, .inl ⟨SqL.of sX, fun t1 ht1 => ?_⟩⟩
        have pe1 := pe.new nE ht1 (o := .tup xs)
        refine ⟨_, rfl, pE, _, rfl, .inl ⟨SqL.of pe1.xA, fun t2 ht2 => ?_⟩⟩
        have pe2 := pe1.new nE ht2 (o := .tup ys)
        refine ⟨by show 4 ≤ sizeLine; decide, fun t3 ht3 => ?_⟩
        have pe3 := pe2.new nE ht3 (o := .tup [.ref aw, .ref p4, .ref t1, .ref t2])
        have tD : Tn K (upd (upd H3 t1 (.tup xs)) t2 (.tup ys)) (.ref t1) (pairsD ds) := Tn.keep (TK.of_same (Same.new ht2 _)) (Tn.new sT ht1)
        have tE : Tn K (upd (upd H3 t1 (.tup xs)) t2 (.tup ys)) (.ref t2) (pairsD es) := Tn.new pe1.tA ht2
        refine q _ ⟨ws, srcs, ds, es⟩ _ pe3.kp pe3.ok ⟨by show 2 ≤ ws.length; omega, by show ws.length ≤ 4; omega, by show 1 ≤ srcs.length; omega, by show srcs.length ≤ 4; omega, ddl, by show es.length ≤ 4; omega, wN, ?_, dok, eok⟩ (by show (srcs.length : Int) ≤ a1; omega) ?_
        · have e : PP.names ⟨ws, srcs, ds, es⟩ = ns := by
            show srcs ++ ds.map (·.1) ++ es.map (·.1) = ns
            rw [dn, en, ← hse]
            have h1 := List.take_append_drop (1 + ms).toNat ns
            have h2 := List.take_append_drop md.toNat (ns.drop (1 + ms).toNat)
            rw [List.drop_drop] at h2
            have h3 : (ns.drop ((1 + ms).toNat + md.toNat)).take me.toNat = ns.drop ((1 + ms).toNat + md.toNat) := List.take_of_length_le (by rw [List.length_drop]; omega)
            rw [h3, List.append_assoc, h2, h1]
          rw [e]; exact nN
        · have k23 : TK (upd (upd H3 t1 (.tup xs)) t2 (.tup ys)) (upd (upd (upd H3 t1 (.tup xs)) t2 (.tup ys)) t3 (.tup [.ref aw, .ref p4, .ref t1, .ref t2])) := TK.of_same (Same.new ht3 _)
          exact ⟨t3, aw, p4, .ref t1, .ref t2, rfl, SqT.of upd_same, pe3.wA, pe3.sA, Tn.keep k23 tD, Tn.keep k23 tE⟩
end
end K68
namespace K68
open PySem PySem.Spec PyProof.Rows L2 Td
/-! ### names and pairs that are right -/
def spIsName : Sp := fun vs H Q _ => ∃ z, vs = [.str z] ∧ isNm z = true ∧ ∀ H', Same H H' → Q (.bl true) H'
def spAreNames (K : PySem.W.Frag) : Sp := fun vs H Q _ => ∃ (a : Addr) (zs : List Str) (l m : Int), vs = [.ref a, .int l, .int m] ∧ SqT K H a (zs.map V.str) ∧ Names zs ∧ l ≤ zs.length ∧ (zs.length : Int) ≤ m ∧ zs.length ≤ 100 ∧
  ∀ H', Same H H' → Q (.bl true) H'
def spNamedPairs (K : PySem.W.Frag) : Sp := fun vs H Q _ => ∃ (v : V) (tk : Addr) (ps : List (Str × List Td.Row)) (ts : List Str) (m : Int), vs = [v, .int m, .ref tk] ∧ Tn K H v (pairsD ps) ∧ SqT K H tk (ts.map V.str) ∧
  Names (ts ++ ps.map (·.1)) ∧ (ps.length : Int) ≤ m ∧ ps.length ≤ 100 ∧ ts.length ≤ 100 ∧ ∀ H', Same H H' → Q (.bl true) H'
def spNamesOf (K : PySem.W.Frag) : Sp := fun vs H Q _ => ∃ (v : V) (ps : List (Str × List Td.Row)), vs = [v] ∧ Tn K H v (pairsD ps) ∧ ps.length ≤ 100 ∧
  ∀ (p : Addr) H', Same H H' → SqT K H' p (ps.map fun q => V.str q.1) → Q (.ref p) H'
theorem isNm_len {z : Str} (h : isNm z = true) : 1 ≤ z.length ∧ z.length ≤ 8 ∧ z.cps.toList.all lowc = true := by
  unfold isNm at h
  simp only [Bool.and_eq_true, decide_eq_true_eq] at h
  exact ⟨h.1.1, h.1.2, h.2⟩
theorem ty_tup {K : PySem.W.Frag} {H : Hp} {a : Addr} {xs : List V} (h : SqT K H a xs) : TyX K H (.ref a) (.type "tuple") := by
  rcases h with (h | ⟨o, h⟩) | ⟨o, its, n, h, c, _⟩
  · exact .base (.tup h)
  · exact .fTuple h
  · exact .kTuple h c
/-- the pairs' items -/
theorem pairs_at {K : PySem.W.Frag} {H : Hp} {v : V} {ps : List (Str × List Td.Row)} (h : Tn K H v (pairsD ps)) : ∃ (a : Addr) (xs : List V), v = .ref a ∧ SqT K H a xs ∧ xs.length = ps.length ∧
    ∀ (i : Nat) (x : V), xs[i]? = some x → ∃ (q : Str × List Td.Row) (b : Addr) (vr : V), ps[i]? = some q ∧ x = .ref b ∧ SqT K H b [.str q.1, vr] ∧ Tn K H vr (.tuple (rowsD q.2)) := by
  obtain ⟨a, xs, rfl, hS, hT⟩ := Tn.tup_inv h
  have hl := hT.length
  rw [List.length_map] at hl
  refine ⟨a, xs, rfl, hS, hl, fun i x hx => ?_⟩
  have hi : i < ps.length := by rw [← hl]; exact (List.getElem?_eq_some_iff.mp hx).1
  obtain ⟨d, h1, h2⟩ := TnAll.get hT hx
  rw [List.getElem?_map, List.getElem?_eq_getElem hi] at h1
  cases h1
  obtain ⟨b, ys, rfl, hS2, hT2⟩ := Tn.tup_inv h2
  cases hT2 with
  | cons c1 c2 =>
    cases c1
    cases c2 with
    | cons c3 c4 =>
      cases c4
      exact ⟨_, b, _, List.getElem?_eq_getElem hi, rfl, hS2, c3⟩
section
variable {P : Program} {w : World} {K : PySem.W.Frag} {mg : Str → Option Value} {base : Heap}
theorem ok_is_name (T : Tops w K mg) : FnOk P w K mg base CX0 1 T.a_is_name T.d_is_name ["value"] spIsName := by
  refine T.F_is_name.ok sc_is_name (fun vs H Q E h => ?_) (fun cdv A outer s H vs Q E hr h => ?_)
  · obtain ⟨z, rfl, _⟩ := h
    rfl
  obtain ⟨z, rfl, hz, q⟩ := h
  obtain ⟨z1, z8, zl⟩ := isNm_len hz
  refine ⟨_, (pss_cons (ps_if (PW.pt (pw_or (pt_not (pt_val (pe_callB call_isi rfl T.z_isinstance (by decide +kernel) (pa_cons (pv 0) (pa_cons (pe_bltn (v := .ty "str") rfl T.z_str (by decide +kernel) rfl) pa_nil))))) (pw_or1 (pt_not (pt_chain op_le op_le pe_int (pe_callB call_len rfl T.z_len PySem.boot_len (pa_cons (pv 0) pa_nil)) (pe_glob (v := .int 8) rfl T.c_LONGEST_NAME ⟨_, rfl⟩)))))) (pss_one (ps_ret pe_bl)) pss_nil)
    (pss_one (ps_ret (pe_callB (cr_all rfl) rfl T.z_all (by decide +kernel) (pa_cons (pe_lc (own := [("letter", 1)]) (g := gName 1) (tt := tYes) rfl sc_is_name.nd (pi_str (pv 0)) (blkOk_by (own := [("letter", 1)]) (N := N_is_name) (sc := defScope s_is_name) (by decide +kernel)) (fun _ _ _ _ _ => (pg_name (i := 1) sc_is_name.nd rfl (Or.inl rfl))) (fun _ _ _ _ _ => pts_nil) (fun _ _ _ _ _ => (pe_chain op_le_str op_le_str pe_str (pv 1) pe_str))) pa_nil))))), ?_⟩
  have zs : z.length ≤ sizeLine := Nat.le_of_lt (small1000 (by omega))
  refine ⟨_, rfl, .str z, .ty "str", .type "str", .type "str", true, rfl, .ty _, .base (.str z), kit_ty (by decide +kernel), true, rfl, iteF ?_⟩
  refine ⟨_, rfl, .str z, _, rfl, ⟨zs, rfl⟩, _, _, rfl, rfl, _, rfl, ?_⟩
  have e1 : decide ((1 : Int) ≤ (z.length : Int)) = true := decide_eq_true (by omega)
  refine if_true_of e1 ?_
  have e2 : decide ((z.length : Int) ≤ (8 : Int)) = true := decide_eq_true (by omega)
  refine ⟨_, _, rfl, rfl, _, rfl, ?_⟩
  refine if_false_of (by rw [e2]; rfl) ?_
  -- all([..])
  refine ⟨_, rfl, z, rfl, fun D hD => lc_str (fun i H' => ∃ bs : List Bool, Same H H' ∧ H' D = some (.lst (bs.map V.bl)) ∧ bs.length = i ∧ bs.all id = true) ⟨[], Same.new hD _, upd_same, rfl, rfl⟩ ?_ ?_⟩
  · rintro i c H' hc ⟨bs, hs, hb, hl, ha⟩
    have hlow : lowc c = true := by
      rw [List.all_eq_true] at zl
      exact zl c (by rw [Array.mem_toList_iff]; exact Array.mem_of_getElem? hc)
    unfold lowc at hlow
    simp only [Bool.and_eq_true, decide_eq_true_eq] at hlow
    have na : ("a" : Str).cps.toList = [97] := by decide +kernel
    have nz : ("z" : Str).cps.toList = [122] := by decide +kernel
    have k1 : (!decide ((⟨#[c]⟩ : Str).cps.toList < ("a" : Str).cps.toList)) = true := by
      rw [na]
      show (!decide ([c] < [97])) = true
      simp [List.cons_lt_cons_iff]
      omega
    have k2 : (!decide (("z" : Str).cps.toList < (⟨#[c]⟩ : Str).cps.toList)) = true := by
      rw [nz]
      show (!decide ([122] < [c])) = true
      simp [List.cons_lt_cons_iff]
      omega
    have hic : i < z.cps.size := (Array.getElem?_eq_some_iff.mp hc).1
    have hz8 : z.cps.size ≤ 8 := z8
    refine ⟨rfl, ?_⟩
    refine tYes_of ?_
    refine ⟨_, rfl, _, _, rfl, rfl, _, rfl, if_true_of k1 ?_⟩
    refine ⟨_, _, rfl, rfl, _, hb, small1000 (by rw [List.length_map]; omega), bs ++ [true], ?_, ?_, by rw [List.length_append, hl]; rfl, ?_⟩
    · intro b o e
      rw [upd_ne (ne_of_none e hD)]
      exact hs b o e
    · rw [upd_same, k2, List.map_append]; rfl
    · rw [List.all_append, ha]; rfl
  · rintro H' ⟨bs, hs, hb, hl, ha⟩
    refine ⟨D, bs, rfl, SqL.of hb, ?_⟩
    rw [ha]
    exact q H' hs
theorem ok_are_names (T : Tops w K mg) (G_is_name : FnOk P w K mg base CX0 1 T.a_is_name T.d_is_name ["value"] spIsName) :
    FnOk P w K mg base CX0 2 T.a_are_names T.d_are_names ["value", "least", "most"] (spAreNames K) := by
  refine T.F_are_names.ok sc_are_names (fun vs H Q E h => ?_) (fun cdv A outer s H vs Q E hr h => ?_)
  · obtain ⟨a, zs, l, m, rfl, _⟩ := h
    rfl
  obtain ⟨a, zs, l, m, rfl, hS, hN, hl, hm, h100, q⟩ := h
  refine ⟨_, (pss_cons (ps_if (PW.pt (pw_or (pt_not (pt_val (pe_callB call_isi rfl T.z_isinstance (by decide +kernel) (pa_cons (pv 0) (pa_cons (pe_bltn (v := .ty "tuple") rfl T.z_tuple (by decide +kernel) rfl) pa_nil))))) (pw_or1 (pt_not (pt_chain op_le op_le (pv 1) (pe_callB call_len rfl T.z_len PySem.boot_len (pa_cons (pv 0) pa_nil)) (pv 2)))))) (pss_one (ps_ret pe_bl)) pss_nil)
    (pss_one (ps_ret (pe_and (pe_callB (cr_all rfl) rfl T.z_all (by decide +kernel) (pa_cons (pe_lc (own := [("item", 3)]) (g := gName 3) (tt := tYes) rfl sc_are_names.nd (pi_tup (pv 0)) (blkOk_by (own := [("item", 3)]) (N := N_are_names) (sc := defScope s_are_names) (by decide +kernel)) (fun _ _ _ _ _ => (pg_name (i := 3) sc_are_names.nd rfl (Or.inl rfl))) (fun _ _ _ _ _ => pts_nil) (fun _ _ _ _ _ => (pe_call G_is_name (hr.mono (by omega)) rfl T.m_is_name T.F_is_name.kp T.b_is_name .nil pass0 (pa_cons (pv 3) pa_nil)))) pa_nil)) (pe_one (pe_cmpR op_eq (pe_lenSetT rfl rfl T.z_len rfl T.z_set (pv 0)) (pe_callB call_len rfl T.z_len PySem.boot_len (pa_cons (pv 0) pa_nil)) (nomark _))))))), ?_⟩
  refine ⟨_, rfl, .ref a, .ty "tuple", .type "tuple", .type "tuple", true, rfl, .ty _, ty_tup hS, kit_ty (by decide +kernel), true, rfl, iteF ?_⟩
  have e0 : (zs.map V.str).length = zs.length := List.length_map _
  refine ⟨_, rfl, _, rfl, .ref a, _, rfl, .inr ⟨_, hS, rfl⟩, _, _, rfl, rfl, _, rfl, ?_⟩
  have e1 : decide (l ≤ (((zs.map V.str).length : Nat) : Int)) = true := decide_eq_true (by omega)
  refine if_true_of e1 ?_
  have e2 : decide ((((zs.map V.str).length : Nat) : Int) ≤ m) = true := decide_eq_true (by omega)
  refine ⟨_, rfl, _, _, rfl, rfl, _, rfl, ?_⟩
  refine if_false_of (by rw [e2]; rfl) ?_
  refine ⟨_, rfl, a, rfl, ⟨_, hS⟩, fun D hD => lc_tup (K := K) (a := a) (xs := zs.map V.str) (fun i H' => ∃ bs : List Bool, Same H H' ∧ H' D = some (.lst (bs.map V.bl)) ∧ bs.length = i ∧ bs.all id = true)
    ⟨[], Same.new hD _, upd_same, rfl, rfl⟩ (fun i H' _ ⟨_, hs, _⟩ => SqT.same hs hS) ?_ ?_⟩
  · rintro i x H' hx ⟨bs, hs, hb, hl', ha⟩
    rw [List.getElem?_map] at hx
    obtain ⟨z, hz, rfl⟩ := Option.map_eq_some_iff.mp hx
    have hi : i < zs.length := (List.getElem?_eq_some_iff.mp hz).1
    refine ⟨rfl, ?_⟩
    refine tYes_of ?_
    refine ⟨_, rfl, z, rfl, hN.good z (List.mem_of_getElem? hz), fun H4 s4 => ⟨_, s4 _ _ hb, small1000 (by rw [List.length_map]; omega), bs ++ [true], ?_, by rw [upd_same, List.map_append]; rfl, by rw [List.length_append, hl']; rfl, by rw [List.all_append, ha]; rfl⟩⟩
    intro b o e
    rw [upd_ne (ne_of_none e hD)]
    exact s4 _ _ (hs b o e)
  · rintro H' ⟨bs, hs, hb, hl', ha⟩
    have hS' := SqT.same hs hS
    refine ⟨D, bs, rfl, SqL.of hb, _, rfl, ?_⟩
    refine if_true_of ha ?_
    refine ⟨_, rfl, a, zs, rfl, hS', by omega, _, rfl, .ref a, _, rfl, .inr ⟨_, hS', rfl⟩, rfl, ?_⟩
    have e3 : TdSet.dcnt zs zs.length = zs.length := TdSet.dcnt_nodup (Nat.le_refl _) (by rw [List.take_length]; exact hN.nd)
    have e4 : decide (V.int (TdSet.dcnt zs zs.length : Nat) = V.int (((zs.map V.str).length : Nat) : Int)) = true := by rw [e3, e0]; exact decide_eq_true rfl
    rw [e4]
    exact q H' hs
theorem ok_named_pairs (T : Tops w K mg) (G_is_name : FnOk P w K mg base CX0 1 T.a_is_name T.d_is_name ["value"] spIsName) :
    FnOk P w K mg base CX0 2 T.a_are_named_pairs T.d_are_named_pairs ["value", "most", "taken"] (spNamedPairs K) := by
  refine T.F_are_named_pairs.ok sc_are_named_pairs (fun vs H Q E h => ?_) (fun cdv A outer s H vs Q E hr h => ?_)
  · obtain ⟨v, tk, ps, ts, m, rfl, _⟩ := h
    rfl
  obtain ⟨v, tk, ps, ts, m, rfl, hT, hS, hN, hm, h100, t100, q⟩ := h
  obtain ⟨a, xs, rfl, hA, hl, hx⟩ := pairs_at hT
  refine ⟨_, (pss_cons (ps_if (PW.pt (pw_or (pt_not (pt_val (pe_callB call_isi rfl T.z_isinstance (by decide +kernel) (pa_cons (pv 0) (pa_cons (pe_bltn (v := .ty "tuple") rfl T.z_tuple (by decide +kernel) rfl) pa_nil))))) (pw_or1 (pt_cmpR op_gt (pe_callB call_len rfl T.z_len PySem.boot_len (pa_cons (pv 0) pa_nil)) (pv 1) (nomark _))))) (pss_one (ps_ret pe_bl)) pss_nil)
    (pss_cons (ps_set (i := 3) sc_are_named_pairs.nd rfl (Or.inl rfl) (pe_callTy call_list_of rfl T.z_list (by decide +kernel) (pa_cons (pv 2) pa_nil)))
    (pss_cons (ps_for PassesOwn.never rfl (pi_tup (pv 0)) (pg_name (i := 4) sc_are_named_pairs.nd rfl (Or.inl rfl)) (pss_cons (ps_if (PW.pt (pw_or (pt_not (pt_val (pe_callB call_isi rfl T.z_isinstance (by decide +kernel) (pa_cons (pv 4) (pa_cons (pe_bltn (v := .ty "tuple") rfl T.z_tuple (by decide +kernel) rfl) pa_nil))))) (pw_or1 (pt_cmpR op_ne (pe_callB call_len rfl T.z_len PySem.boot_len (pa_cons (pv 4) pa_nil)) pe_int (nomark _))))) (pss_one (ps_ret pe_bl)) pss_nil)
    (pss_cons (ps_if (PW.pt (pw_or (pt_not (pt_val (pe_call G_is_name (hr.mono (by omega)) rfl T.m_is_name T.F_is_name.kp T.b_is_name .nil pass0 (pa_cons (pe_ix ix_tup (pv 4) pe_int (fun _ _ => rfl)) pa_nil)))) (pw_or1 (pt_cmpR op_in_seq (pe_ix ix_tup (pv 4) pe_int (fun _ _ => rfl)) (pv 3) (by rfl))))) (pss_one (ps_ret pe_bl)) pss_nil)
    (pss_one (ps_expr (pe_bm PySem.F.plainAttrs_list PySem.F.slot_list_append PySem.F.type_list_append mt_append (pv 3) (pa_cons (pe_ix ix_tup (pv 4) pe_int (fun _ _ => rfl)) pa_nil)))))))
    (pss_one (ps_ret pe_bl))))), ?_⟩
  refine ⟨_, rfl, .ref a, .ty "tuple", .type "tuple", .type "tuple", true, rfl, .ty _, ty_tup hA, kit_ty (by decide +kernel), true, rfl, iteF ?_⟩
  refine ⟨_, rfl, .ref a, _, rfl, .inr ⟨_, hA, rfl⟩, _, rfl, _, _, rfl, rfl, _, rfl, ?_⟩
  have e1 : decide (m < ((xs.length : Nat) : Int)) = false := decide_eq_false (by omega)
  refine if_false_of e1 ?_
  refine ⟨_, rfl, tk, _, rfl, .inr hS, fun l hl0 => ?_⟩
  refine ⟨_, rfl, a, rfl, ⟨_, SqT.same (Same.new hl0 _) hA⟩, for_tup (K := K) (a := a) (xs := xs) (fun i σ H' => ∃ v4 : Option V, σ = [some (.ref a), some (.int m), some (.ref tk), some (.ref l), v4] ∧ Same H H' ∧ H' l = some (.lst ((ts ++ (ps.take i).map (·.1)).map V.str)))
    ⟨none, rfl, Same.new hl0 _, by simpa using upd_same⟩ (fun i σ H' _ ⟨_, _, hs, _⟩ => SqT.same hs hA) ?_ ?_⟩
  · rintro i x σ H' hi ⟨v4, rfl, hs, hL⟩
    obtain ⟨qq, b, vr, hq, rfl, hB, hR⟩ := hx i x hi
    have hB' := SqT.same hs hB
    have hips : i < ps.length := (List.getElem?_eq_some_iff.mp hq).1
    refine ⟨_, rfl, .ref b, .ty "tuple", .type "tuple", .type "tuple", true, rfl, .ty _, ty_tup hB', kit_ty (by decide +kernel), true, rfl, iteF ?_⟩
    refine ⟨_, rfl, .ref b, _, rfl, .inr ⟨_, hB', rfl⟩, rfl, _, rfl, ?_⟩
    refine if_false_of (by show (!decide (V.int ((2 : Nat) : Int) = V.int 2)) = false; decide +kernel) ?_
    have hmem : qq.1 ∈ ps.map (·.1) := List.mem_map.mpr ⟨qq, List.mem_of_getElem? hq, rfl⟩
    refine ⟨_, rfl, b, _, 0, _, rfl, rfl, hB', rfl, qq.1, rfl, hN.good _ (List.mem_append_right _ hmem), fun H3 s3 => ⟨true, rfl, iteF ?_⟩⟩
    have hB3 := SqT.same s3 hB'
    have hL3 := s3 _ _ hL
    refine ⟨_, rfl, b, _, 0, _, rfl, rfl, hB3, rfl, _, rfl, l, _, rfl, .inl (SqL.of hL3), rfl, L2.flat_strs _, _, rfl, ?_⟩
    have hnot : qq.1 ∉ ts ++ (ps.take i).map (·.1) := by
      have e : ts ++ ps.map (·.1) = (ts ++ (ps.take i).map (·.1)) ++ (ps.drop i).map (·.1) := by
        rw [List.append_assoc, ← List.map_append, List.take_append_drop]
      have nd := hN.nd
      rw [e] at nd
      intro hin
      refine (List.nodup_append.mp nd).2.2 _ hin qq.1 ?_ rfl
      refine List.mem_map.mpr ⟨qq, ?_, rfl⟩
      have : (ps.drop i)[0]? = some qq := by rw [List.getElem?_drop]; exact hq
      exact List.mem_of_getElem? this
    refine if_false_of (by show (inV _ _) = false; rw [inV_strs]; exact decide_eq_false hnot) ?_
    refine ⟨_, rfl, .inl ⟨rfl, _, SqL.of hL3⟩, _, rfl, b, _, 0, _, rfl, rfl, hB3, rfl, l, _, _, rfl, rfl, hL3, small1000 ?_, ?_⟩
    · rw [List.length_map, List.length_append, List.length_map, List.length_take]; omega
    · refine ⟨_, rfl, fun b o e => ?_, ?_⟩
      · rw [upd_ne (ne_of_none e hl0)]
        exact s3 _ _ (hs b o e)
      · rw [upd_same, take_more hq]
        simp
  · rintro σ H' ⟨v4, rfl, hs, hL⟩
    exact q H' hs
theorem ok_names_of (T : Tops w K mg) : FnOk P w K mg base CX0 1 T.a_names_of T.d_names_of ["pairs"] (spNamesOf K) := by
  refine T.F_names_of.ok sc_names_of (fun vs H Q E h => ?_) (fun cdv A outer s H vs Q E hr h => ?_)
  · obtain ⟨v, ps, rfl, _⟩ := h
    rfl
  obtain ⟨v, ps, rfl, hT, h100, q⟩ := h
  obtain ⟨a, xs, rfl, hA, hl, hx⟩ := pairs_at hT
  refine ⟨_, (pss_one (ps_ret (pe_callTy call_tuple_of rfl T.z_tuple (by decide +kernel) (pa_cons (pe_lc (own := [("name", 1), ("_", 2)]) (g := gTup K 2 (gCons (gName 1) (gCons (gName 2) gNil))) (tt := tYes) rfl sc_names_of.nd (pi_tup (pv 0)) (blkOk_by (own := [("name", 1), ("_", 2)]) (N := N_names_of) (sc := defScope s_names_of) (by decide +kernel)) (fun _ _ _ _ _ => (pg_tup rfl (pgs_cons (pg_name (i := 1) sc_names_of.nd rfl (Or.inl rfl)) (pgs_cons (pg_name (i := 2) sc_names_of.nd rfl (Or.inl rfl)) pgs_nil)))) (fun _ _ _ _ _ => pts_nil) (fun _ _ _ _ _ => (pv 1))) pa_nil)))), ?_⟩
  refine ⟨_, rfl, a, rfl, ⟨_, hA⟩, fun D hD => lc_tup (K := K) (a := a) (xs := xs) (fun i H' => Same H H' ∧ H' D = some (.lst ((ps.take i).map fun q => V.str q.1)))
    ⟨Same.new hD _, by simpa using upd_same⟩ (fun i H' _ ⟨hs, _⟩ => SqT.same hs hA) ?_ ?_⟩
  · rintro i x H' hi ⟨hs, hb⟩
    obtain ⟨qq, b, vr, hq, rfl, hB, hR⟩ := hx i x hi
    have hB' := SqT.same hs hB
    have hips : i < ps.length := (List.getElem?_eq_some_iff.mp hq).1
    refine ⟨b, _, rfl, hB', rfl, _, _, rfl, _, _, rfl, rfl, rfl, ?_⟩
    refine tYes_of ?_
    refine ⟨_, rfl, _, hb, small1000 (by rw [List.length_map, List.length_take]; omega), fun c o e => ?_, ?_⟩
    · rw [upd_ne (ne_of_none e hD)]
      exact hs c o e
    · rw [upd_same, take_more hq, List.map_append]; rfl
  · rintro H' ⟨hs, hb⟩
    rw [hl, List.take_length] at hb
    refine ⟨D, _, rfl, .inl ⟨SqL.of hb, fun p hp => q p _ (hs.trans (Same.new hp _)) (SqT.of upd_same)⟩⟩
end
end K68
namespace K68
open PySem PySem.Spec PyProof.Rows L2 Td
/-! ### the rows of a body that is right -/
def kdS (eff : Bool) : Str := if eff then "effects" else "derived"
def scF (kd : Str) (aw as ar : Addr) : List (Str × V) := [("kind", .str kd), ("words", .ref aw), ("sources", .ref as), ("readable", .ref ar)]
theorem scF_put (kd : Str) (aw as ar : Addr) : putF "readable" (.ref ar) (putF "sources" (.ref as) (putF "words" (.ref aw) (putF "kind" (.str kd) []))) = scF kd aw as ar := by kernel_rfl
theorem scF_kind (kd : Str) (aw as ar : Addr) : (scF kd aw as ar).lookup ("kind" : Str) = some (.str kd) := by kernel_rfl
theorem scF_words (kd : Str) (aw as ar : Addr) : (scF kd aw as ar).lookup ("words" : Str) = some (.ref aw) := by kernel_rfl
theorem scF_sources (kd : Str) (aw as ar : Addr) : (scF kd aw as ar).lookup ("sources" : Str) = some (.ref as) := by kernel_rfl
theorem scF_readable (kd : Str) (aw as ar : Addr) : (scF kd aw as ar).lookup ("readable" : Str) = some (.ref ar) := by kernel_rfl
structure ScopeAt (K : PySem.W.Frag) (H : Hp) (C sa : Addr) (S : Sc) : Prop where
  ex : ∃ (dx aw as ar : Addr), H sa = some (.ins C dx (scF (kdS S.eff) aw as ar)) ∧ SqT K H aw (S.words.map V.str) ∧ SqT K H as (S.sources.map V.str) ∧ SqT K H ar (S.readable.map V.str)
theorem ScopeAt.same {K : PySem.W.Frag} {H H' : Hp} {C sa : Addr} {S : Sc} (h : ScopeAt K H C sa S) (s : Same H H') : ScopeAt K H' C sa S := by
  obtain ⟨dx, aw, as, ar, e, h1, h2, h3⟩ := h.ex
  exact ⟨dx, aw, as, ar, s _ _ e, SqT.same s h1, SqT.same s h2, SqT.same s h3⟩
def spScope (C : Addr) : Sp := fun vs H Q _ => ∃ (x dx aw as ar : Addr) (kd : Str), vs = [.ref x, .str kd, .ref aw, .ref as, .ref ar] ∧ H x = some (.ins C dx []) ∧ Q .non (upd H x (.ins C dx (scF kd aw as ar)))
def spRead (K : PySem.W.Frag) (C : Addr) : Sp := fun vs H Q _ => ∃ (v : V) (sa : Addr) (S : Sc) (pk : Bool) (c s : Str), vs = [v, .ref sa] ∧ Dp K H v (rowD (.rd pk c s)) ∧ ScopeAt K H C sa S ∧ c ∈ S.readable ∧ isNm s = true ∧ ∀ H', Same H H' → Q (.bl true) H'
def spPut (K : PySem.W.Frag) (C : Addr) : Sp := fun vs H Q _ => ∃ (v : V) (sa : Addr) (S : Sc) (s u : Str), vs = [v, .ref sa] ∧ Dp K H v (rowD (.put s u)) ∧ ScopeAt K H C sa S ∧ u ∈ S.words ∧ isNm s = true ∧ ∀ H', Same H H' → Q (.bl true) H'
def spIf (K : PySem.W.Frag) (C : Addr) : Sp := fun vs H Q _ => ∃ (v : V) (sa : Addr) (S : Sc) (s u : Str) (y n : List Td.Row), vs = [v, .ref sa] ∧ Dp K H v (rowD (.ite s u y n)) ∧ ScopeAt K H C sa S ∧ u ∈ S.words ∧ isNm s = true ∧ ∀ H', Same H H' → Q (.bl true) H'
def spSlot (K : PySem.W.Frag) (C : Addr) : Sp := fun vs H Q _ => ∃ (v : V) (sa : Addr) (S : Sc) (g : Bool) (s : Str), vs = [v, .ref sa] ∧ Dp K H v (rowD (if g then .give s else .say s)) ∧ ScopeAt K H C sa S ∧ isNm s = true ∧ ∀ H', Same H H' → Q (.bl true) H'
def spWrite (K : PySem.W.Frag) (C : Addr) : Sp := fun vs H Q _ => ∃ (v : V) (sa : Addr) (S : Sc) (c s : Str), vs = [v, .ref sa] ∧ Dp K H v (rowD (.wr c s)) ∧ ScopeAt K H C sa S ∧ c ∈ S.sources ∧ isNm s = true ∧ ∀ H', Same H H' → Q (.bl true) H'
theorem in_of {z : Str} {ws : List Str} (h : z ∈ ws) : inV (.str z) (ws.map V.str) = true := by rw [inV_strs]; exact decide_eq_true h
section
variable {P : Program} {w : World} {K : PySem.W.Frag} {mg : Str → Option Value} {base : Heap}
theorem ok_scope (T : Tops w K mg) : FnOk P w K mg base CX0 1 T.a_Scope_init T.d_Scope_init ["self", "kind", "words", "sources", "readable"] (spScope T.c_Scope) := by
  refine T.F_Scope_init.ok sc_Scope_init (fun vs H Q E h => ?_) (fun cdv A outer s H vs Q E hr h => ?_)
  · obtain ⟨x, dx, aw, as, ar, kd, rfl, _⟩ := h
    rfl
  obtain ⟨x, dx, aw, as, ar, kd, rfl, hx, q⟩ := h
  refine ⟨_, (pss_cons (ps_fld (pv 0) (pv 1) rfl)
    (pss_cons (ps_fld (pv 0) (pv 2) rfl)
    (pss_cons (ps_fld (pv 0) (pv 3) rfl)
    (pss_one (ps_fld (pv 0) (pv 4) rfl))))), ?_⟩
  refine ⟨_, rfl, _, rfl, x, T.c_Scope, dx, [], rfl, hx, T.l_Scope, T.n_Scope_kind, by show 0 < 1000; decide, ?_⟩
  refine ⟨_, rfl, _, rfl, x, T.c_Scope, dx, _, rfl, upd_same, T.l_Scope, T.n_Scope_words, by show 1 < 1000; decide, ?_⟩
  rw [upd_upd]
  refine ⟨_, rfl, _, rfl, x, T.c_Scope, dx, _, rfl, upd_same, T.l_Scope, T.n_Scope_sources, Nat.lt_of_le_of_lt (m := 2) (Nat.le_of_eq (by kernel_rfl)) (by decide), ?_⟩
  rw [upd_upd]
  refine ⟨_, rfl, _, rfl, x, T.c_Scope, dx, _, rfl, upd_same, T.l_Scope, T.n_Scope_readable, Nat.lt_of_le_of_lt (m := 3) (Nat.le_of_eq (by kernel_rfl)) (by decide), ?_⟩
  rw [upd_upd, scF_put]
  exact q
theorem ok_read (T : Tops w K mg) (G_is_name : FnOk P w K mg base CX0 1 T.a_is_name T.d_is_name ["value"] spIsName) : FnOk P w K mg base CX0 2 T.a_is_read_row T.d_is_read_row ["row", "scope"] (spRead K T.c_Scope) := by
  refine T.F_is_read_row.ok sc_is_read_row (fun vs H Q E h => ?_) (fun cdv A outer s H vs Q E hr h => ?_)
  · obtain ⟨v, sa, S, pk, c, s, rfl, _⟩ := h
    rfl
  obtain ⟨v, sa, S, pk, c, sl, rfl, hD, hSc, hc, hs, q⟩ := h
  obtain ⟨a, rfl, hS⟩ := rd_at hD
  obtain ⟨dx, aw, as, ar, e, h1, h2, h3⟩ := hSc.ex
  refine ⟨_, (pss_one (ps_ret (pe_and (pe_cmpR op_eq (pe_callB call_len rfl T.z_len PySem.boot_len (pa_cons (pv 0) pa_nil)) pe_int (nomark _)) (pe_and (pe_cmpR op_in_seq (pe_ix ix_tup (pv 0) pe_int (fun _ _ => rfl)) (pe_fld (pv 1) rfl) (by rfl)) (pe_one (pe_call G_is_name (hr.mono (by omega)) rfl T.m_is_name T.F_is_name.kp T.b_is_name .nil pass0 (pa_cons (pe_ix ix_tup (pv 0) pe_int (fun _ _ => rfl)) pa_nil))))))), ?_⟩
  refine ⟨_, rfl, .ref a, _, rfl, .inr ⟨_, hS, rfl⟩, rfl, _, rfl, if_true_of (by show decide (V.int ((3 : Nat) : Int) = V.int 3) = true; decide +kernel) ?_⟩
  refine ⟨_, rfl, a, _, 1, _, rfl, rfl, hS, rfl, _, rfl, sa, _, dx, _, _, rfl, e, T.l_Scope, T.n_Scope_readable, scF_readable .., ar, _, rfl, .inr h3, rfl, L2.flat_strs _, _, rfl, if_true_of (in_of hc) ?_⟩
  exact ⟨_, rfl, a, _, 2, _, rfl, rfl, hS, rfl, sl, rfl, hs, q⟩
theorem ok_put (T : Tops w K mg) (G_is_name : FnOk P w K mg base CX0 1 T.a_is_name T.d_is_name ["value"] spIsName) : FnOk P w K mg base CX0 2 T.a_is_put_row T.d_is_put_row ["row", "scope"] (spPut K T.c_Scope) := by
  refine T.F_is_put_row.ok sc_is_put_row (fun vs H Q E h => ?_) (fun cdv A outer s H vs Q E hr h => ?_)
  · obtain ⟨v, sa, S, s, u, rfl, _⟩ := h
    rfl
  obtain ⟨v, sa, S, sl, u, rfl, hD, hSc, hc, hs, q⟩ := h
  obtain ⟨a, rfl, hS⟩ := put_at hD
  refine ⟨_, (pss_one (ps_ret (pe_and (pe_cmpR op_eq (pe_callB call_len rfl T.z_len PySem.boot_len (pa_cons (pv 0) pa_nil)) pe_int (nomark _)) (pe_and (pe_call G_is_name (hr.mono (by omega)) rfl T.m_is_name T.F_is_name.kp T.b_is_name .nil pass0 (pa_cons (pe_ix ix_tup (pv 0) pe_int (fun _ _ => rfl)) pa_nil)) (pe_one (pe_cmpR op_in_seq (pe_ix ix_tup (pv 0) pe_int (fun _ _ => rfl)) (pe_fld (pv 1) rfl) (by rfl))))))), ?_⟩
  refine ⟨_, rfl, .ref a, _, rfl, .inr ⟨_, hS, rfl⟩, rfl, _, rfl, if_true_of (by show decide (V.int ((3 : Nat) : Int) = V.int 3) = true; decide +kernel) ?_⟩
  refine ⟨_, rfl, a, _, 1, _, rfl, rfl, hS, rfl, sl, rfl, hs, fun H1 s1 => ⟨_, rfl, iteT ?_⟩⟩
  obtain ⟨dx, aw, as, ar, e, h1, h2, h3⟩ := (hSc.same s1).ex
  refine ⟨_, rfl, a, _, 2, _, rfl, rfl, SqT.same s1 hS, rfl, _, rfl, sa, _, dx, _, _, rfl, e, T.l_Scope, T.n_Scope_words, scF_words .., aw, _, rfl, .inr h1, rfl, L2.flat_strs _, ?_⟩
  show Q (.bl (inV _ _)) H1
  rw [in_of hc]
  exact q H1 s1
theorem ok_slot (T : Tops w K mg) (G_is_name : FnOk P w K mg base CX0 1 T.a_is_name T.d_is_name ["value"] spIsName) : FnOk P w K mg base CX0 2 T.a_is_slot_row T.d_is_slot_row ["row", "scope"] (spSlot K T.c_Scope) := by
  refine T.F_is_slot_row.ok sc_is_slot_row (fun vs H Q E h => ?_) (fun cdv A outer s H vs Q E hr h => ?_)
  · obtain ⟨v, sa, S, g, s, rfl, _⟩ := h
    rfl
  obtain ⟨v, sa, S, g, sl, rfl, hD, hSc, hs, q⟩ := h
  obtain ⟨a, tg, rfl, hS⟩ : ∃ (a : Addr) (tg : Str), v = .ref a ∧ SqT K H a [.str tg, .str sl] := by
    cases g with
    | true => obtain ⟨a, e, h⟩ := give_at hD; exact ⟨a, _, e, h⟩
    | false => obtain ⟨a, e, h⟩ := say_at hD; exact ⟨a, _, e, h⟩
  refine ⟨_, (pss_one (ps_ret (pe_and (pe_cmpR op_eq (pe_callB call_len rfl T.z_len PySem.boot_len (pa_cons (pv 0) pa_nil)) pe_int (nomark _)) (pe_one (pe_call G_is_name (hr.mono (by omega)) rfl T.m_is_name T.F_is_name.kp T.b_is_name .nil pass0 (pa_cons (pe_ix ix_tup (pv 0) pe_int (fun _ _ => rfl)) pa_nil)))))), ?_⟩
  refine ⟨_, rfl, .ref a, _, rfl, .inr ⟨_, hS, rfl⟩, rfl, _, rfl, if_true_of (by show decide (V.int ((2 : Nat) : Int) = V.int 2) = true; decide +kernel) ?_⟩
  exact ⟨_, rfl, a, _, 1, _, rfl, rfl, hS, rfl, sl, rfl, hs, q⟩
theorem ok_write (T : Tops w K mg) (G_is_name : FnOk P w K mg base CX0 1 T.a_is_name T.d_is_name ["value"] spIsName) : FnOk P w K mg base CX0 2 T.a_is_write_row T.d_is_write_row ["row", "scope"] (spWrite K T.c_Scope) := by
  refine T.F_is_write_row.ok sc_is_write_row (fun vs H Q E h => ?_) (fun cdv A outer s H vs Q E hr h => ?_)
  · obtain ⟨v, sa, S, c, s, rfl, _⟩ := h
    rfl
  obtain ⟨v, sa, S, c, sl, rfl, hD, hSc, hc, hs, q⟩ := h
  obtain ⟨a, rfl, hS⟩ := wr_at hD
  obtain ⟨dx, aw, as, ar, e, h1, h2, h3⟩ := hSc.ex
  refine ⟨_, (pss_one (ps_ret (pe_and (pe_cmpR op_eq (pe_callB call_len rfl T.z_len PySem.boot_len (pa_cons (pv 0) pa_nil)) pe_int (nomark _)) (pe_and (pe_cmpR op_in_seq (pe_ix ix_tup (pv 0) pe_int (fun _ _ => rfl)) (pe_fld (pv 1) rfl) (by rfl)) (pe_one (pe_call G_is_name (hr.mono (by omega)) rfl T.m_is_name T.F_is_name.kp T.b_is_name .nil pass0 (pa_cons (pe_ix ix_tup (pv 0) pe_int (fun _ _ => rfl)) pa_nil))))))), ?_⟩
  refine ⟨_, rfl, .ref a, _, rfl, .inr ⟨_, hS, rfl⟩, rfl, _, rfl, if_true_of (by show decide (V.int ((3 : Nat) : Int) = V.int 3) = true; decide +kernel) ?_⟩
  refine ⟨_, rfl, a, _, 1, _, rfl, rfl, hS, rfl, _, rfl, sa, _, dx, _, _, rfl, e, T.l_Scope, T.n_Scope_sources, scF_sources .., as, _, rfl, .inr h2, rfl, L2.flat_strs _, _, rfl, if_true_of (in_of hc) ?_⟩
  exact ⟨_, rfl, a, _, 2, _, rfl, rfl, hS, rfl, sl, rfl, hs, q⟩
theorem ok_if (T : Tops w K mg) (G_is_name : FnOk P w K mg base CX0 1 T.a_is_name T.d_is_name ["value"] spIsName) : FnOk P w K mg base CX0 2 T.a_is_if_row T.d_is_if_row ["row", "scope"] (spIf K T.c_Scope) := by
  refine T.F_is_if_row.ok sc_is_if_row (fun vs H Q E h => ?_) (fun cdv A outer s H vs Q E hr h => ?_)
  · obtain ⟨v, sa, S, s, u, y, n, rfl, _⟩ := h
    rfl
  obtain ⟨v, sa, S, sl, u, y, n, rfl, hD, hSc, hc, hs, q⟩ := h
  obtain ⟨a, vy, vn, rfl, hS, hy, hn⟩ := ite_at hD
  refine ⟨_, (pss_cons (ps_if (PW.pt (pw_or (pt_cmpR op_ne (pe_callB call_len rfl T.z_len PySem.boot_len (pa_cons (pv 0) pa_nil)) pe_int (nomark _)) (pw_or (pt_not (pt_val (pe_call G_is_name (hr.mono (by omega)) rfl T.m_is_name T.F_is_name.kp T.b_is_name .nil pass0 (pa_cons (pe_ix ix_tup (pv 0) pe_int (fun _ _ => rfl)) pa_nil)))) (pw_or1 (pt_cmpR op_notIn_seq (pe_ix ix_tup (pv 0) pe_int (fun _ _ => rfl)) (pe_fld (pv 1) rfl) (by rfl)))))) (pss_one (ps_ret pe_bl)) pss_nil)
    (pss_one (ps_ret (pe_and (pe_callB call_isi rfl T.z_isinstance (by decide +kernel) (pa_cons (pe_ix ix_tup (pv 0) pe_int (fun _ _ => rfl)) (pa_cons (pe_bltn (v := .ty "tuple") rfl T.z_tuple (by decide +kernel) rfl) pa_nil))) (pe_one (pe_callB call_isi rfl T.z_isinstance (by decide +kernel) (pa_cons (pe_ix ix_tup (pv 0) pe_int (fun _ _ => rfl)) (pa_cons (pe_bltn (v := .ty "tuple") rfl T.z_tuple (by decide +kernel) rfl) pa_nil)))))))), ?_⟩
  refine ⟨_, rfl, .ref a, _, rfl, .inr ⟨_, hS, rfl⟩, rfl, _, rfl, if_false_of (by show (!decide (V.int ((5 : Nat) : Int) = V.int 5)) = false; decide +kernel) ?_⟩
  refine ⟨_, rfl, a, _, 1, _, rfl, rfl, hS, rfl, sl, rfl, hs, fun H1 s1 => ⟨_, rfl, iteF ?_⟩⟩
  obtain ⟨dx, aw, as, ar, e, h1, h2, h3⟩ := (hSc.same s1).ex
  have hS1 := SqT.same s1 hS
  refine ⟨_, rfl, a, _, 2, _, rfl, rfl, hS1, rfl, _, rfl, sa, _, dx, _, _, rfl, e, T.l_Scope, T.n_Scope_words, scF_words .., aw, _, rfl, .inr h1, rfl, L2.flat_strs _, _, rfl, if_false_of (by show (!inV _ _) = false; rw [in_of hc]; rfl) ?_⟩
  obtain ⟨ay, xy, rfl, hy1, _⟩ := Dp.tup_inv (Dp.same s1 hy)
  obtain ⟨an, xn, rfl, hn1, _⟩ := Dp.tup_inv (Dp.same s1 hn)
  refine ⟨_, rfl, a, _, 3, _, rfl, rfl, hS1, rfl, .ref ay, .ty "tuple", .type "tuple", .type "tuple", true, rfl, .ty _, ty_tup hy1, kit_ty (by decide +kernel), _, rfl, iteT ?_⟩
  exact ⟨_, rfl, a, _, 4, _, rfl, rfl, hS1, rfl, .ref an, .ty "tuple", .type "tuple", .type "tuple", true, rfl, .ty _, ty_tup hn1, kit_ty (by decide +kernel), q H1 s1⟩
/-- which function judges a row -/
def fitF (T : Tops w K mg) : Td.Row → Addr
  | .rd .. => T.a_is_read_row
  | .put .. => T.a_is_put_row
  | .give .. => T.a_is_slot_row
  | .say .. => T.a_is_slot_row
  | .wr .. => T.a_is_write_row
  | .ite .. => T.a_is_if_row
def spCheckOf (T : Tops w K mg) : Sp := fun vs H Q _ => ∃ (S : Sc) (dep : Nat) (r : Td.Row), vs = [.str (kdS S.eff), .str (rowTag r)] ∧ okR S dep r ∧ Q (.ref (fitF T r)) H
theorem ok_check_of (T : Tops w K mg) : FnOk P w K mg base CX0 1 T.a_check_of T.d_check_of ["kind", "form"] (spCheckOf T) := by
  refine T.F_check_of.ok sc_check_of (fun vs H Q E h => ?_) (fun cdv A outer s H vs Q E hr h => ?_)
  · obtain ⟨S, dep, r, rfl, _⟩ := h
    rfl
  obtain ⟨S, dep, r, rfl, hok, q⟩ := h
  refine ⟨_, (pss_cons (ps_if (pt_cmpR op_eq (pv 0) pe_str (nomark _)) (pss_one (ps_ret (pe_kget (pe_glob (v := .ref T.a_DERIVED_FORMS) rfl T.c_DERIVED_FORMS rfl) (pv 1) ⟨rfl, rfl, rfl, rfl⟩))) pss_nil)
    (pss_one (ps_ret (pe_kget (pe_glob (v := .ref T.a_EFFECT_FORMS) rfl T.c_EFFECT_FORMS rfl) (pv 1) ⟨rfl, rfl, rfl, rfl⟩)))), ?_⟩
  refine ⟨_, rfl, rfl, _, rfl, ?_⟩
  obtain ⟨eff, ws, so, rd⟩ := S
  cases eff with
  | false =>
    refine if_true_of (by show decide (V.str "derived" = V.str "derived") = true; decide +kernel) ?_
    refine ⟨T.a_DERIVED_FORMS, rfl, T.w_DERIVED_FORMS, _, rfl, _, rfl, .inl ⟨_, ?_, q⟩⟩
    cases r with
    | rd pk c s =>
      unfold okR at hok
      cases pk with
      | false => exact T.w_DERIVED_FORMS_read
      | true => exact nomatch hok.1 rfl
    | put s u => exact T.w_DERIVED_FORMS_put
    | give s => exact T.w_DERIVED_FORMS_give
    | say s => unfold okR at hok; exact nomatch hok.1
    | wr c s => unfold okR at hok; exact nomatch hok.1
    | ite s u y n => exact T.w_DERIVED_FORMS_if
  | true =>
    refine if_false_of (by show decide (V.str "effects" = V.str "derived") = false; decide +kernel) ?_
    refine ⟨T.a_EFFECT_FORMS, rfl, T.w_EFFECT_FORMS, _, rfl, _, rfl, .inl ⟨_, ?_, q⟩⟩
    cases r with
    | rd pk c s =>
      cases pk with
      | false => exact T.w_EFFECT_FORMS_read
      | true => exact T.w_EFFECT_FORMS_peek
    | put s u => exact T.w_EFFECT_FORMS_put
    | give s => unfold okR at hok; exact nomatch hok.1
    | say s => exact T.w_EFFECT_FORMS_say
    | wr c s => exact T.w_EFFECT_FORMS_write
    | ite s u y n => exact T.w_EFFECT_FORMS_if
end
end K68
namespace K68
open PySem PySem.Spec PyProof.Rows L2 Td
def fitS (K : PySem.W.Frag) {w : World} {mg : Str → Option Value} (T : Tops w K mg) : Addr → Sp → Prop := fun f sp =>
  (f = T.a_is_read_row ∧ sp = spRead K T.c_Scope) ∨ (f = T.a_is_put_row ∧ sp = spPut K T.c_Scope) ∨ (f = T.a_is_slot_row ∧ sp = spSlot K T.c_Scope) ∨ (f = T.a_is_write_row ∧ sp = spWrite K T.c_Scope) ∨ (f = T.a_is_if_row ∧ sp = spIf K T.c_Scope)
def spValid (K : PySem.W.Frag) (C : Addr) : Sp := fun vs H Q _ => ∃ (v : V) (sa : Addr) (S : Sc) (dep : Nat) (r : Td.Row), vs = [v, .ref sa, .int (dep : Nat)] ∧ Dp K H v (rowD r) ∧ ScopeAt K H C sa S ∧ okR S dep r ∧ ∀ H', Same H H' → Q (.bl true) H'
def spFirst (K : PySem.W.Frag) (C : Addr) (n : Nat) : Sp := fun vs H Q _ => ∃ (v : V) (sa b : Addr) (bs : List V) (S : Sc) (dep : Nat) (rs : List Td.Row), vs = [v, .ref sa, .ref b, .int (dep : Nat)] ∧ Dp K H v (.tuple (rowsD rs)) ∧ ScopeAt K H C sa S ∧
  SqT K H b bs ∧ bs.length ≤ 2 + 2 * dep ∧ bs ≠ [] ∧ okRs S dep rs ∧ dep ≤ 4 ∧ 5 ≤ dep + n ∧ ∀ H', Same H H' → Q .non H'
def spPaths (K : PySem.W.Frag) (n : Nat) : Sp := fun vs H Q _ => ∃ (v : V) (b : Addr) (bs : List V) (S : Sc) (dep : Nat) (rs : List Td.Row), vs = [v, .ref b] ∧ Dp K H v (.tuple (rowsD rs)) ∧
  SqT K H b bs ∧ bs.length ≤ 2 + 2 * dep ∧ bs ≠ [] ∧ okRs S dep rs ∧ cnts rs ≤ 100 ∧ dep ≤ 4 ∧ 5 ≤ dep + n ∧ ∀ (p : Addr) (xs : List V) H', Same H H' → H p = none → H' p = some (.lst xs) → xs.length = cnts rs → Q (.ref p) H'
def spBody (K : PySem.W.Frag) (C : Addr) : Sp := fun vs H Q _ => ∃ (v : V) (sa : Addr) (S : Sc) (rs : List Td.Row) (i : Int), vs = [v, .ref sa, .int i] ∧ Dp K H v (.tuple (rowsD rs)) ∧ ScopeAt K H C sa S ∧ okRs S 1 rs ∧ cnts rs ≤ 16 ∧
  ∀ H', Same H H' → Q .non H'
section
variable {P : Program} {w : World} {K : PySem.W.Frag} {mg : Str → Option Value} {base : Heap}
theorem fit_held (T : Tops w K mg)
    (G1 : FnOk P w K mg base CX0 2 T.a_is_read_row T.d_is_read_row ["row", "scope"] (spRead K T.c_Scope))
    (G2 : FnOk P w K mg base CX0 2 T.a_is_put_row T.d_is_put_row ["row", "scope"] (spPut K T.c_Scope))
    (G3 : FnOk P w K mg base CX0 2 T.a_is_slot_row T.d_is_slot_row ["row", "scope"] (spSlot K T.c_Scope))
    (G4 : FnOk P w K mg base CX0 2 T.a_is_write_row T.d_is_write_row ["row", "scope"] (spWrite K T.c_Scope))
    (G5 : FnOk P w K mg base CX0 2 T.a_is_if_row T.d_is_if_row ["row", "scope"] (spIf K T.c_Scope)) : ∀ f sp, fitS K T f sp → Held P w K mg base 2 f sp := by
  rintro f sp (⟨rfl, rfl⟩ | ⟨rfl, rfl⟩ | ⟨rfl, rfl⟩ | ⟨rfl, rfl⟩ | ⟨rfl, rfl⟩)
  · exact ⟨_, _, G1, T.F_is_read_row.kp, T.b_is_read_row⟩
  · exact ⟨_, _, G2, T.F_is_put_row.kp, T.b_is_put_row⟩
  · exact ⟨_, _, G3, T.F_is_slot_row.kp, T.b_is_slot_row⟩
  · exact ⟨_, _, G4, T.F_is_write_row.kp, T.b_is_write_row⟩
  · exact ⟨_, _, G5, T.F_is_if_row.kp, T.b_is_if_row⟩
theorem ok_valid (T : Tops w K mg) (hA : ∀ f sp, fitS K T f sp → Held P w K mg base 2 f sp)
    (G_check_of : FnOk P w K mg base CX0 1 T.a_check_of T.d_check_of ["kind", "form"] (spCheckOf T)) :
    FnOk P w K mg base CX0 3 T.a_is_valid_row T.d_is_valid_row ["row", "scope", "depth"] (spValid K T.c_Scope) := by
  refine T.F_is_valid_row.ok sc_is_valid_row (fun vs H Q E h => ?_) (fun cdv A outer s H vs Q E hr h => ?_)
  · obtain ⟨v, sa, S, dep, r, rfl, _⟩ := h
    rfl
  obtain ⟨v, sa, S, dep, r, rfl, hD, hSc, ok, q⟩ := h
  obtain ⟨a, xs, rfl, hS, h0⟩ := row_at hD
  obtain ⟨dx, aw, as, ar, e, h1, h2, h3⟩ := hSc.ex
  refine ⟨_, (pss_cons (ps_if (PW.pt (pw_or (pt_not (pt_val (pe_callB call_isi rfl T.z_isinstance (by decide +kernel) (pa_cons (pv 0) (pa_cons (pe_bltn (v := .ty "tuple") rfl T.z_tuple (by decide +kernel) rfl) pa_nil))))) (pw_or (pt_cmpR op_eq (pe_callB call_len rfl T.z_len PySem.boot_len (pa_cons (pv 0) pa_nil)) pe_int (nomark _)) (pw_or1 (pt_not (pt_val (pe_callB call_isi rfl T.z_isinstance (by decide +kernel) (pa_cons (pe_ix ix_tup (pv 0) pe_int (fun _ _ => rfl)) (pa_cons (pe_bltn (v := .ty "str") rfl T.z_str (by decide +kernel) rfl) pa_nil))))))))) (pss_one (ps_ret pe_bl)) pss_nil)
    (C8.pss_cut (ps_if (PW.pt (pw_and (pt_cmpR op_eq (pe_ix ix_tup (pv 0) pe_int (fun _ _ => rfl)) pe_str (nomark _)) (pw_and1 (pt_cmpR op_gt (pv 2) (pe_glob (v := .int 3) rfl T.c_DEEPEST_IF ⟨_, rfl⟩) (nomark _))))) (pss_one (ps_ret pe_bl)) pss_nil)
    (pss_cons (ps_set (i := 3) sc_is_valid_row.nd rfl (Or.inl rfl) (pe_call G_check_of (hr.mono (by omega)) rfl T.m_check_of T.F_check_of.kp T.b_check_of .nil pass0 (pa_cons (pe_fld (pv 1) rfl) (pa_cons (pe_ix ix_tup (pv 0) pe_int (fun _ _ => rfl)) pa_nil))))
    (pss_one (ps_ret (pe_and (pe_cmpR op_notN (pv 3) pe_non (nomark _)) (pe_one (pe_callR (i := 3) (S := fitS K T) hA (hr.mono (by omega)) rfl (Or.inl rfl) (pa_cons (pv 0) (pa_cons (pv 1) pa_nil)))))))))), ?_⟩
  have hx : 0 < xs.length := (List.getElem?_eq_some_iff.mp h0).1
  have a0 : atI xs 0 = some (.str (rowTag r)) := atI_nat (j := 0) h0
  refine ⟨_, rfl, .ref a, .ty "tuple", .type "tuple", .type "tuple", true, rfl, .ty _, ty_tup hS, kit_ty (by decide +kernel), true, rfl, iteF ?_⟩
  refine ⟨_, rfl, .ref a, _, rfl, .inr ⟨_, hS, rfl⟩, rfl, _, rfl, if_false_of (decide_eq_false (fun h => by injection h; omega)) ?_⟩
  refine ⟨_, rfl, a, _, 0, _, rfl, rfl, hS, a0, .str (rowTag r), .ty "str", .type "str", .type "str", true, rfl, .ty _, .base (.str _), kit_ty (by decide +kernel), true, rfl, if_false_of rfl ?_⟩
  refine ⟨fun σ' H' => H' = H ∧ σ' = [some (.ref a), some (.ref sa), some (.int (dep : Nat)), none], ?_, ?_⟩
  · refine ⟨_, rfl, a, _, 0, _, rfl, rfl, hS, a0, rfl, _, rfl, ?_⟩
    cases hi : isIte r with
    | false => exact if_false_of ((tag_if r).trans hi) (iteF ⟨rfl, rfl⟩)
    | true =>
      refine if_true_of ((tag_if r).trans hi) ?_
      have h3' : dep ≤ 3 := by
        cases r with
        | ite s u y n => unfold okR at ok; exact ok.1
        | _ => cases hi
      refine ⟨_, rfl, _, _, rfl, rfl, _, rfl, if_false_of (decide_eq_false (by omega)) ⟨rfl, rfl⟩⟩
  rintro σ' H' ⟨rfl, rfl⟩
  refine ⟨_, rfl, sa, _, dx, _, _, rfl, e, T.l_Scope, T.n_Scope_kind, scF_kind .., _, rfl, a, _, 0, _, rfl, rfl, hS, a0, S, dep, r, rfl, ok, ?_⟩
  refine ⟨_, rfl, rfl, _, rfl, if_true_of (by rfl) ?_⟩
  cases r with
  | rd pk c s => unfold okR at ok; exact ⟨_, _, rfl, .inl ⟨rfl, rfl⟩, _, rfl, _, rfl, _, sa, S, pk, c, s, rfl, hD, hSc, ok.2.1, ok.2.2, q⟩
  | put s u => unfold okR at ok; exact ⟨_, _, rfl, .inr (.inl ⟨rfl, rfl⟩), _, rfl, _, rfl, _, sa, S, s, u, rfl, hD, hSc, ok.2, ok.1, q⟩
  | give s => unfold okR at ok; exact ⟨_, _, rfl, .inr (.inr (.inl ⟨rfl, rfl⟩)), _, rfl, _, rfl, _, sa, S, true, s, rfl, hD, hSc, ok.2, q⟩
  | say s => unfold okR at ok; exact ⟨_, _, rfl, .inr (.inr (.inl ⟨rfl, rfl⟩)), _, rfl, _, rfl, _, sa, S, false, s, rfl, hD, hSc, ok.2, q⟩
  | wr c s => unfold okR at ok; exact ⟨_, _, rfl, .inr (.inr (.inr (.inl ⟨rfl, rfl⟩))), _, rfl, _, rfl, _, sa, S, c, s, rfl, hD, hSc, ok.2.1, ok.2.2, q⟩
  | ite s u y n => unfold okR at ok; exact ⟨_, _, rfl, .inr (.inr (.inr (.inr ⟨rfl, rfl⟩))), _, rfl, _, rfl, _, sa, S, s, u, y, n, rfl, hD, hSc, ok.2.2.1, ok.2.1, q⟩
theorem ok_first1 (T : Tops w K mg) {n : Nat} (hn3 : 3 ≤ n) (G_is_valid_row : FnOk P w K mg base CX0 3 T.a_is_valid_row T.d_is_valid_row ["row", "scope", "depth"] (spValid K T.c_Scope))
    (G_first_wrong_path : FnOk P w K mg base CX0 n T.a_first_wrong_path T.d_first_wrong_path ["rows", "scope", "base", "depth"] (spFirst K T.c_Scope (n - 3))) :
    FnOk P w K mg base CX0 (n + 1) T.a_first_wrong_path T.d_first_wrong_path ["rows", "scope", "base", "depth"] (spFirst K T.c_Scope (n - 3 + 1)) := by
  refine T.F_first_wrong_path.ok sc_first_wrong_path (fun vs H Q E h => ?_) (fun cdv A outer s H vs Q E hr h => ?_)
  · obtain ⟨v, sa, b, bs, S, dep, rs, rfl, _⟩ := h
    rfl
  obtain ⟨v, sa, b, bs, S, dep, rs, rfl, hD, hSc, hB, hbl, hb0, ok, hdep, hn, q⟩ := h
  obtain ⟨a, xs, rfl, hS, hl, hx⟩ := rows_at hD
  refine ⟨_, (pss_cons (ps_for PassesOwn.never rfl (pi_enumT rfl T.z_enumerate (pa_cons (pv 0) pa_nil)) (pg_tup rfl (pgs_cons (pg_name (i := 4) sc_first_wrong_path.nd rfl (Or.inl rfl)) (pgs_cons (pg_name (i := 5) sc_first_wrong_path.nd rfl (Or.inl rfl)) pgs_nil))) (pss_cons (ps_set (i := 6) sc_first_wrong_path.nd rfl (Or.inl rfl) (pe_op op_catA (pv 2) (pe_tup (pa_cons (pv 4) pa_nil))))
    (pss_cons (ps_if (pt_not (pt_val (pe_call G_is_valid_row (hr.mono (by omega)) rfl T.m_is_valid_row T.F_is_valid_row.kp T.b_is_valid_row .nil pass0 (pa_cons (pv 5) (pa_cons (pv 1) (pa_cons (pv 3) pa_nil)))))) (pss_one (ps_ret (pv 6))) pss_nil)
    (pss_one (ps_if (pt_cmpR op_eq (pe_ix ix_tup (pv 5) pe_int (fun _ _ => rfl)) pe_str (nomark _)) (pss_one (ps_for PassesOwn.never rfl (pi_tup (pe_tup (pa_cons pe_int (pa_cons pe_int pa_nil)))) (pg_name (i := 7) sc_first_wrong_path.nd rfl (Or.inl rfl)) (pss_cons (ps_set (i := 8) sc_first_wrong_path.nd rfl (Or.inl rfl) (pe_call G_first_wrong_path (hr.mono (by omega)) rfl T.m_first_wrong_path T.F_first_wrong_path.kp T.b_first_wrong_path .nil pass0 (pa_cons (pe_ix ix_tup (pv 5) (pe_op op_add pe_int (pv 7)) (fun _ _ => rfl)) (pa_cons (pv 1) (pa_cons (pe_op op_catA (pv 6) (pe_tup (pa_cons (pv 7) pa_nil))) (pa_cons (pe_op op_add (pv 3) pe_int) pa_nil))))))
    (pss_one (ps_if (pt_cmpR op_notN (pv 8) pe_non (nomark _)) (pss_one (ps_ret (pv 8))) pss_nil))))) pss_nil)))))
    (pss_one (ps_ret pe_non))), ?_⟩
  refine ⟨_, rfl, a, _, rfl, hS, for_enumT (K := K) (a := a) (xs := xs) (fun i σ H' => ∃ v4 v5 v6 v7 v8 : Option V, σ = [some (.ref a), some (.ref sa), some (.ref b), some (.int (dep : Nat)), v4, v5, v6, v7, v8] ∧ Same H H')
    ⟨none, none, none, none, none, rfl, Same.refl _⟩ (fun i σ H' _ ⟨_, _, _, _, _, _, hs⟩ => SqT.same hs hS) ?_ ?_⟩
  · rintro i x σ H1 t hi ⟨v4, v5, v6, v7, v8, rfl, hs⟩ ht
    obtain ⟨r, hr2, hDr⟩ := hx i x hi
    have okr := okRs_get ok hr2
    have hs1 : Same H (upd H1 t (.tup [.int (i : Nat), x])) := hs.trans (Same.new ht _)
    refine ⟨t, _, rfl, SqT.of upd_same, rfl, _, _, rfl, _, _, rfl, rfl, ?_⟩
    generalize upd H1 t (.tup [.int (i : Nat), x]) = H2 at hs1
    -- path = base + (place,)
    refine ⟨_, rfl, _, rfl, by show 1 ≤ sizeLine; decide, fun t1 ht1 => ?_⟩
    have hs2 := hs1.trans (Same.new ht1 (.tup [.int (i : Nat)]))
    refine ⟨b, t1, bs, _, rfl, rfl, SqT.same hs2 hB, SqT.of upd_same, Nat.le_of_lt (small1000 (by show bs.length + 1 ≤ 1000; omega)), fun e => absurd e hb0, fun _ e => (by cases e), fun _ _ pa hpa => ?_⟩
    have hs3 := hs2.trans (Same.new hpa (.tup (bs ++ [.int (i : Nat)])))
    have hP : SqT K (upd (upd H2 t1 (.tup [.int (i : Nat)])) pa (.tup (bs ++ [.int (i : Nat)]))) pa (bs ++ [.int (i : Nat)]) := SqT.of upd_same
    show tSeq _ _ _ _ (upd (upd H2 t1 (.tup [.int (i : Nat)])) pa (.tup (bs ++ [.int (i : Nat)])))
    generalize upd (upd H2 t1 (.tup [.int (i : Nat)])) pa (.tup (bs ++ [.int (i : Nat)])) = H3 at hs3 hP
    -- is_valid_row
    refine ⟨_, rfl, _, rfl, _, rfl, _, sa, S, dep, r, rfl, Dp.same hs3 hDr, hSc.same hs3, okr, fun H4 s4 => ⟨_, rfl, if_false_of rfl ?_⟩⟩
    have hs4 := hs3.trans s4
    cases hi2 : isIte r with
    | false =>
      obtain ⟨ar, ys, rfl, hSr, h0⟩ := row_at (Dp.same hs4 hDr)
      refine ⟨_, rfl, ar, _, 0, _, rfl, rfl, hSr, atI_nat (j := 0) h0, rfl, _, rfl, ?_⟩
      exact if_false_of ((tag_if r).trans hi2) ⟨_, _, _, v7, v8, rfl, hs4⟩
    | true =>
      cases r with
      | ite sl u y n' =>
        obtain ⟨ar, vy, vn, rfl, hSr, hy, hn'⟩ := ite_at (Dp.same hs4 hDr)
        unfold okR at okr
        refine ⟨_, rfl, ar, _, 0, _, rfl, rfl, hSr, rfl, rfl, _, rfl, ?_⟩
        refine if_true_of (by decide +kernel) ?_
        refine ⟨by show 2 ≤ sizeLine; decide, fun tb htb => ?_⟩
        have hs5 := Same.new htb (.tup [.int 0, .int 1])
        refine ⟨tb, rfl, ⟨_, SqT.of upd_same⟩, for_tup (K := K) (a := tb) (xs := [.int 0, .int 1]) (fun j σ H' => ∃ v7 v8 : Option V, σ = [some (.ref a), some (.ref sa), some (.ref b), some (.int (dep : Nat)), some (.int (i : Nat)), some (.ref ar), some (.ref pa), v7, v8] ∧ Same (upd H4 tb (.tup [.int 0, .int 1])) H')
          ⟨v7, v8, rfl, Same.refl _⟩ (fun j σ H' _ ⟨_, _, _, h⟩ => SqT.of (h _ _ upd_same)) ?_ ?_⟩
        · rintro j x σ H5 hj ⟨v7, v8, rfl, h5⟩
          have h45 := hs5.trans h5
          have h05 := hs4.trans h45
          obtain ⟨k, vk, rk, rfl, hk, hDk, okk⟩ : ∃ (k : Nat) (vk : V) (rk : List Td.Row), x = .int (k : Nat) ∧ atI [V.str "if", .str sl, .str u, vy, vn] (3 + (k : Int)) = some vk ∧ Dp K H4 vk (.tuple (rowsD rk)) ∧ okRs S (dep + 1) rk := by
            match j, hj with
            | 0, hj => cases hj; exact ⟨0, vy, y, rfl, rfl, hy, okr.2.2.2.1⟩
            | 1, hj => cases hj; exact ⟨1, vn, n', rfl, rfl, hn', okr.2.2.2.2⟩
            | j + 2, hj => simp at hj
          refine ⟨_, rfl, _, rfl, _, _, rfl, rfl, ar, _, _, _, rfl, rfl, SqT.same h45 hSr, hk, _, rfl, _, rfl, _, rfl, by show 1 ≤ sizeLine; decide, fun t2 ht2 => ?_⟩
          have s52 := Same.new ht2 (.tup [.int (k : Nat)])
          have hP5 := SqT.same ((s4.trans h45).trans s52) hP
          refine ⟨pa, t2, _, _, rfl, rfl, hP5, SqT.of upd_same, Nat.le_of_lt (small1000 (by rw [List.length_append]; show bs.length + 1 + 1 ≤ 1000; omega)), fun e => (by simp at e), fun _ e => (by cases e), fun _ _ t3 ht3 => ?_⟩
          have s53 := s52.trans (Same.new ht3 (.tup (bs ++ [.int (i : Nat)] ++ [.int (k : Nat)])))
          refine ⟨_, rfl, _, _, rfl, rfl, vk, sa, t3, _, S, dep + 1, rk, rfl, Dp.same (h45.trans s53) hDk, hSc.same (h05.trans s53), SqT.of upd_same, by simp; omega, by simp, okk, by omega, by omega, fun H6 s6 => ?_⟩
          refine ⟨_, rfl, rfl, _, rfl, if_false_of rfl ⟨_, _, rfl, h5.trans (s53.trans s6)⟩⟩
        · rintro σ H5 ⟨v7, v8, rfl, h5⟩
          exact ⟨_, _, _, v7, v8, rfl, hs4.trans (hs5.trans h5)⟩
      | _ => cases hi2
  · rintro σ H1 ⟨v4, v5, v6, v7, v8, rfl, hs⟩
    exact q H1 hs
theorem ok_first (T : Tops w K mg) (G1 : FnOk P w K mg base CX0 3 T.a_is_valid_row T.d_is_valid_row ["row", "scope", "depth"] (spValid K T.c_Scope)) :
    ∀ k, FnOk P w K mg base CX0 (k + 3) T.a_first_wrong_path T.d_first_wrong_path ["rows", "scope", "base", "depth"] (spFirst K T.c_Scope k)
  | 0 => by
    have no : ∀ vs H Q E, ¬ spFirst K T.c_Scope 0 vs H Q E := fun vs H Q E h => by
      obtain ⟨_, _, _, _, _, dep, _, _, _, _, _, _, _, _, h1, h2, _⟩ := h
      omega
    exact ⟨fun vs H Q E h => absurd h (no vs H Q E), fun A outer s H args us vs Q E _ _ _ _ h => absurd h (no vs H Q E)⟩
  | k + 1 => ok_first1 T (n := k + 3) (by omega) G1 (ok_first T G1 k)
end
end K68
namespace K68
open PySem PySem.Spec PyProof.Rows L2 Td
theorem Same.own {H H' : Hp} {p : Addr} {o : HO} (k : Same H H') (h : H p = none) : Same H (upd H' p o) := fun b u e => by
  rw [upd_ne (ne_of_none e h)]; exact k b u e
theorem cnts_get {rs : List Td.Row} {i : Nat} {r : Td.Row} (h : rs[i]? = some r) : cnt r + cnts (rs.take i) ≤ cnts rs := by
  have e : cnts rs = cnts (rs.take (i + 1)) + cnts (rs.drop (i + 1)) := by rw [← cnts_append, List.take_append_drop]
  rw [e, cnts_take h]; omega
section
variable {P : Program} {w : World} {K : PySem.W.Frag} {mg : Str → Option Value} {base : Heap}
theorem ok_paths1 (T : Tops w K mg) {n : Nat} (G_paths_of_rows : FnOk P w K mg base CX0 n T.a_paths_of_rows T.d_paths_of_rows ["rows", "base"] (spPaths K n)) :
    FnOk P w K mg base CX0 (n + 1) T.a_paths_of_rows T.d_paths_of_rows ["rows", "base"] (spPaths K (n + 1)) := by
  refine T.F_paths_of_rows.ok sc_paths_of_rows (fun vs H Q E h => ?_) (fun cdv A outer s H vs Q E hr h => ?_)
  · obtain ⟨v, b, bs, S, dep, rs, rfl, _⟩ := h
    rfl
  obtain ⟨v, b, bs, S, dep, rs, rfl, hD, hB, hbl, hb0, ok, hcn, hdep, hn, q⟩ := h
  obtain ⟨a, xs, rfl, hS, hl, hx⟩ := rows_at hD
  refine ⟨_, (pss_cons (ps_set (i := 2) sc_paths_of_rows.nd rfl (Or.inl rfl) (pe_lst pa_nil))
    (pss_cons (ps_for PassesOwn.never rfl (pi_enumT rfl T.z_enumerate (pa_cons (pv 0) pa_nil)) (pg_tup rfl (pgs_cons (pg_name (i := 3) sc_paths_of_rows.nd rfl (Or.inl rfl)) (pgs_cons (pg_name (i := 4) sc_paths_of_rows.nd rfl (Or.inl rfl)) pgs_nil))) (pss_cons (ps_set (i := 5) sc_paths_of_rows.nd rfl (Or.inl rfl) (pe_op op_catA (pv 1) (pe_tup (pa_cons (pv 3) pa_nil))))
    (pss_cons (ps_expr (pe_bm PySem.F.plainAttrs_list PySem.F.slot_list_append PySem.F.type_list_append mt_append (pv 2) (pa_cons (pv 5) pa_nil)))
    (pss_one (ps_if (pt_cmpR op_eq (pe_ix ix_tup (pv 4) pe_int (fun _ _ => rfl)) pe_str (nomark _)) (pss_one (ps_for PassesOwn.never rfl (pi_tup (pe_tup (pa_cons pe_int (pa_cons pe_int pa_nil)))) (pg_name (i := 6) sc_paths_of_rows.nd rfl (Or.inl rfl)) (pss_one (ps_expr (pe_bm PySem.F.plainAttrs_list PySem.F.slot_list_extend PySem.F.type_list_extend mt_extend (pv 2) (pa_cons (pe_call G_paths_of_rows (hr.mono (by omega)) rfl T.m_paths_of_rows T.F_paths_of_rows.kp T.b_paths_of_rows .nil pass0 (pa_cons (pe_ix ix_tup (pv 4) (pe_op op_add pe_int (pv 6)) (fun _ _ => rfl)) (pa_cons (pe_op op_catA (pv 5) (pe_tup (pa_cons (pv 6) pa_nil))) pa_nil))) pa_nil)))))) pss_nil)))))
    (pss_one (ps_ret (pv 2))))), ?_⟩
  refine ⟨by show 0 ≤ sizeLine; decide, fun p hp => ?_⟩
  refine ⟨_, rfl, a, _, rfl, SqT.same (Same.new hp _) hS, for_enumT (K := K) (a := a) (xs := xs) (fun i σ H' => ∃ (v4 v5 v6 v7 : Option V) (ys : List V), σ = [some (.ref a), some (.ref b), some (.ref p), v4, v5, v6, v7] ∧ Same H H' ∧ H' p = some (.lst ys) ∧ ys.length = cnts (rs.take i))
    ⟨none, none, none, none, [], rfl, Same.new hp _, upd_same, rfl⟩ (fun i σ H' _ ⟨_, _, _, _, _, _, hs, _⟩ => SqT.same hs hS) ?_ ?_⟩
  · rintro i x σ H1 t hi ⟨v4, v5, v6, v7, ys, rfl, hs, hy, hyl⟩ ht
    obtain ⟨r, hr2, hDr⟩ := hx i x hi
    have okr := okRs_get ok hr2
    have hcr := cnts_get hr2
    have hs1 : Same H (upd H1 t (.tup [.int (i : Nat), x])) := hs.trans (Same.new ht _)
    have hy1 : upd H1 t (.tup [.int (i : Nat), x]) p = some (.lst ys) := Same.new ht _ _ _ hy
    refine ⟨t, _, rfl, SqT.of upd_same, rfl, _, _, rfl, _, _, rfl, rfl, ?_⟩
    generalize upd H1 t (.tup [.int (i : Nat), x]) = H2 at hs1 hy1
    refine ⟨_, rfl, _, rfl, by show 1 ≤ sizeLine; decide, fun t1 ht1 => ?_⟩
    have hs2 := hs1.trans (Same.new ht1 (.tup [.int (i : Nat)]))
    have hy2 := Same.new ht1 (.tup [.int (i : Nat)]) _ _ hy1
    refine ⟨b, t1, bs, _, rfl, rfl, SqT.same hs2 hB, SqT.of upd_same, Nat.le_of_lt (small1000 (by show bs.length + 1 ≤ 1000; omega)), fun e => absurd e hb0, fun _ e => (by cases e), fun _ _ pa hpa => ?_⟩
    have hs3 := hs2.trans (Same.new hpa (.tup (bs ++ [.int (i : Nat)])))
    have hy3 := Same.new hpa (.tup (bs ++ [.int (i : Nat)])) _ _ hy2
    have hP : SqT K (upd (upd H2 t1 (.tup [.int (i : Nat)])) pa (.tup (bs ++ [.int (i : Nat)]))) pa (bs ++ [.int (i : Nat)]) := SqT.of upd_same
    show tSeq _ _ _ _ (upd (upd H2 t1 (.tup [.int (i : Nat)])) pa (.tup (bs ++ [.int (i : Nat)])))
    generalize upd (upd H2 t1 (.tup [.int (i : Nat)])) pa (.tup (bs ++ [.int (i : Nat)])) = H3 at hs3 hP hy3
    -- append
    have hyb : ys.length ≤ 100 := by omega
    refine ⟨_, rfl, .inl ⟨rfl, _, SqL.of hy3⟩, _, rfl, p, ys, _, rfl, rfl, hy3, small1000 (by omega), ?_⟩
    have hs4 : Same H (upd H3 p (.lst (ys ++ [.ref pa]))) := Same.own hs3 hp
    have hP4 : SqT K (upd H3 p (.lst (ys ++ [.ref pa]))) pa (bs ++ [.int (i : Nat)]) := SqT.tk (TK.upd (by rw [hy3]; trivial)) hP
    have hy4 : upd H3 p (.lst (ys ++ [.ref pa])) p = some (.lst (ys ++ [.ref pa])) := upd_same
    have hl4 : (ys ++ [V.ref pa]).length = cnts (rs.take i) + 1 := by rw [List.length_append, hyl]; rfl
    generalize upd H3 p (.lst (ys ++ [.ref pa])) = H4 at hs4 hP4 hy4
    generalize ys ++ [V.ref pa] = ys4 at hy4 hl4
    cases hi2 : isIte r with
    | false =>
      obtain ⟨ar, zs, rfl, hSr, h0⟩ := row_at (Dp.same hs4 hDr)
      refine ⟨_, rfl, ar, _, 0, _, rfl, rfl, hSr, atI_nat (j := 0) h0, rfl, _, rfl, ?_⟩
      exact if_false_of ((tag_if r).trans hi2) ⟨_, _, _, v7, ys4, rfl, hs4, hy4, by rw [cnts_take hr2, cnt_flat hi2, hl4]⟩
    | true =>
      cases r with
      | ite sl u y n' =>
        obtain ⟨ar, vy, vn, rfl, hSr, hyD, hnD⟩ := ite_at hDr
        unfold okR at okr
        have ecn : Td.cnt (Td.Row.ite sl u y n') = 1 + cnts y + cnts n' := by unfold Td.cnt; rfl
        refine ⟨_, rfl, ar, _, 0, _, rfl, rfl, SqT.same hs4 hSr, rfl, rfl, _, rfl, ?_⟩
        refine if_true_of (by decide +kernel) ?_
        refine ⟨by show 2 ≤ sizeLine; decide, fun tb htb => ?_⟩
        have hs5 := Same.new htb (.tup [.int 0, .int 1])
        have htbS : SqT K (upd H4 tb (.tup [.int 0, .int 1])) tb [.int 0, .int 1] := SqT.of upd_same
        have hP5 := SqT.same hs5 hP4
        have hy5 := hs5 _ _ hy4
        have hs05 := hs4.trans hs5
        generalize upd H4 tb (.tup [.int 0, .int 1]) = H5 at hs5 htbS hP5 hy5 hs05
        refine ⟨tb, rfl, ⟨_, htbS⟩, for_tup (K := K) (a := tb) (xs := [.int 0, .int 1]) (fun j σ H' => ∃ (v7 : Option V) (zs : List V), σ = [some (.ref a), some (.ref b), some (.ref p), some (.int (i : Nat)), some (.ref ar), some (.ref pa), v7] ∧ Same H H' ∧ TK H5 H' ∧ H' p = some (.lst zs) ∧ zs.length = cnts (rs.take i) + 1 + (if j = 0 then 0 else cnts y) + (if j = 2 then cnts n' else 0))
          ⟨v7, ys4, rfl, hs05, TK.refl _, hy5, by rw [hl4]; simp⟩ (fun j σ H' _ ⟨_, _, _, _, tk, _⟩ => SqT.tk tk htbS) ?_ ?_⟩
        · rintro j x σ H6 hj ⟨v7, zs, rfl, h06, tk, hy6, hl6⟩
          have D1 : Dp K H6 vy (.tuple (rowsD y)) := Dp.same h06 hyD
          have D2 : Dp K H6 vn (.tuple (rowsD n')) := Dp.same h06 hnD
          obtain ⟨k, vk, rk, rfl, hk, hDk, okk, hck, hle, hjk⟩ : ∃ (k : Nat) (vk : V) (rk : List Td.Row), x = .int (k : Nat) ∧ atI [V.str "if", .str sl, .str u, vy, vn] (3 + (k : Int)) = some vk ∧ Dp K H6 vk (.tuple (rowsD rk)) ∧ okRs S (dep + 1) rk ∧ cnts rk ≤ 100 ∧ zs.length + cnts rk ≤ 100 ∧
              zs.length + cnts rk = cnts (rs.take i) + 1 + (if j + 1 = 0 then 0 else cnts y) + (if j + 1 = 2 then cnts n' else 0) := by
            match j, hj with
            | 0, hj => cases hj; exact ⟨0, vy, y, rfl, rfl, D1, okr.2.2.2.1, by omega, by rw [hl6]; simp; omega, by rw [hl6]; simp⟩
            | 1, hj => cases hj; exact ⟨1, vn, n', rfl, rfl, D2, okr.2.2.2.2, by omega, by rw [hl6]; simp; omega, by rw [hl6]; simp⟩
            | j + 2, hj => simp at hj
          refine ⟨_, rfl, .inl ⟨rfl, _, SqL.of hy6⟩, ?_⟩
          refine ⟨_, rfl, _, rfl, _, _, rfl, rfl, ar, _, _, _, rfl, rfl, SqT.same h06 hSr, hk, _, rfl, _, rfl, by show 1 ≤ sizeLine; decide, fun t2 ht2 => ?_⟩
          have s62 := Same.new ht2 (.tup [.int (k : Nat)])
          have hP6 := SqT.same s62 (SqT.tk tk hP5)
          refine ⟨pa, t2, _, _, rfl, rfl, hP6, SqT.of upd_same, Nat.le_of_lt (small1000 (by rw [List.length_append]; show bs.length + 1 + 1 ≤ 1000; omega)), fun e => (by simp at e), fun _ e => (by cases e), fun _ _ t3 ht3 => ?_⟩
          have s63 := s62.trans (Same.new ht3 (.tup (bs ++ [.int (i : Nat)] ++ [.int (k : Nat)])))
          refine ⟨vk, t3, _, S, dep + 1, rk, rfl, Dp.same s63 hDk, SqT.of upd_same, by simp; omega, by simp, okk, hck, by omega, by omega, fun p2 ws H7 s7 hp2 hw hwl => ?_⟩
          have hy7 := s7 _ _ (s63 _ _ hy6)
          have hn2 : p ≠ p2 := ne_of_none (s63 _ _ hy6) hp2
          refine ⟨p, p2, zs, ws, rfl, rfl, hy7, hw, Nat.le_of_lt (small1000 (by omega)), ?_⟩
          refine ⟨_, _, rfl, Same.own ((h06.trans s63).trans s7) hp, ?_, upd_same, ?_⟩
          · exact (tk.trans (TK.of_same (s63.trans s7))).trans (TK.upd (by rw [hy7]; trivial))
          · rw [List.length_append, hwl]; exact hjk
        · rintro σ H6 ⟨v7, zs, rfl, h06, tk, hy6, hl6⟩
          refine ⟨_, _, _, v7, zs, rfl, h06, hy6, ?_⟩
          rw [hl6, cnts_take hr2, ecn]
          simp
          omega
      | _ => cases hi2
  · rintro σ H1 ⟨v4, v5, v6, v7, ys, rfl, hs, hy, hyl⟩
    rw [hl, List.take_length] at hyl
    exact ⟨_, rfl, q p ys H1 hs hp hy hyl⟩
theorem ok_paths (T : Tops w K mg) : ∀ k, FnOk P w K mg base CX0 k T.a_paths_of_rows T.d_paths_of_rows ["rows", "base"] (spPaths K k)
  | 0 => by
    have no : ∀ vs H Q E, ¬ spPaths K 0 vs H Q E := fun vs H Q E h => by
      obtain ⟨_, _, _, _, dep, _, _, _, _, _, _, _, _, h1, h2, _⟩ := h
      omega
    exact ⟨fun vs H Q E h => absurd h (no vs H Q E), fun A outer s H args us vs Q E _ _ _ _ h => absurd h (no vs H Q E)⟩
  | k + 1 => ok_paths1 T (ok_paths T k)
end
end K68
namespace K68
open PySem PySem.Spec PyProof.Rows L2 Td
theorem cat_all {K : PySem.W.Frag} {H : Hp} {a b : Addr} {xs ys : List V} {Q : V → Hp → Prop} (hA : SqT K H a xs) (hB : SqT K H b ys) (hl : xs.length + ys.length ≤ sizeLine)
    (k : ∀ (p : Addr) H', Same H H' → SqT K H' p (xs ++ ys) → Q (.ref p) H') : rCatA K (.ref a) (.ref b) H Q := by
  refine ⟨a, b, xs, ys, rfl, rfl, hA, hB, hl, fun e => ?_, fun _ e => ?_, fun _ _ p hp => ?_⟩
  · subst e; exact k b H (Same.refl _) hB
  · subst e; exact k a H (Same.refl _) (by rw [List.append_nil]; exact hA)
  · exact k p _ (Same.new hp _) (SqT.of upd_same)
theorem okDer_get {words sources : List Str} {most : Nat} : ∀ {ps : List (Str × List Td.Row)} {rd : List Str} {i : Nat} {q : Str × List Td.Row}, okDer words sources most rd ps → ps[i]? = some q →
    okRs ⟨false, words, sources, rd ++ (ps.take i).map (·.1)⟩ 1 q.2 ∧ cnts q.2 ≤ most
  | [], rd, i, q, _, h => by simp at h
  | x :: ps, rd, 0, q, h, e => by
    unfold okDer at h
    simp at e; subst e
    exact ⟨by simpa using h.1, h.2.1.1⟩
  | x :: ps, rd, i + 1, q, h, e => by
    unfold okDer at h
    have := okDer_get (i := i) (q := q) h.2.2 (by simpa using e)
    simpa using this
theorem okEff_get {words sources rd : List Str} {most : Nat} : ∀ {ps : List (Str × List Td.Row)} {i : Nat} {q : Str × List Td.Row}, okEff words sources rd most ps → ps[i]? = some q →
    okRs ⟨true, words, sources, rd⟩ 1 q.2 ∧ cnts q.2 ≤ most
  | [], i, q, _, h => by simp at h
  | x :: ps, 0, q, h, e => by
    unfold okEff at h
    simp at e; subst e
    exact ⟨h.1, h.2.1.1⟩
  | x :: ps, i + 1, q, h, e => by
    unfold okEff at h
    exact okEff_get (i := i) (q := q) h.2.2 (by simpa using e)
theorem okDer_lim {words sources : List Str} {most : Nat} : ∀ {ps : List (Str × List Td.Row)} {rd : List Str} {q : Str × List Td.Row}, okDer words sources most rd ps → q ∈ ps → Lim false most q.2
  | [], rd, q, _, h => by cases h
  | x :: ps, rd, q, h, e => by
    unfold okDer at h
    rcases List.mem_cons.mp e with rfl | e
    · exact h.2.1
    · exact okDer_lim h.2.2 e
theorem okEff_lim {words sources rd : List Str} {most : Nat} : ∀ {ps : List (Str × List Td.Row)} {q : Str × List Td.Row}, okEff words sources rd most ps → q ∈ ps → Lim true most q.2
  | [], q, _, h => by cases h
  | x :: ps, q, h, e => by
    unfold okEff at h
    rcases List.mem_cons.mp e with rfl | e
    · exact h.2.1
    · exact okEff_lim h.2.2 e
theorem scope_made {K : PySem.W.Frag} {C x dx aw as ar : Addr} {S : Sc} {H : Hp} (hx : H x = none) (hdx : H dx = none) (hne : dx ≠ x) (h1 : SqT K H aw (S.words.map V.str)) (h2 : SqT K H as (S.sources.map V.str)) (h3 : SqT K H ar (S.readable.map V.str)) :
    ∃ H3, upd (upd (upd H dx (.own x)) x (.ins C dx [])) x (.ins C dx (scF (kdS S.eff) aw as ar)) = H3 ∧ Same H H3 ∧ ScopeAt K H3 C x S := by
  have hs : Same H (upd (upd H dx (.own x)) x (.ins C dx (scF (kdS S.eff) aw as ar))) := (Same.new hdx _).trans (Same.new (by rw [upd_ne (Ne.symm hne)]; exact hx) _)
  exact ⟨_, by rw [upd_upd], hs, ⟨dx, aw, as, ar, upd_same, SqT.same hs h1, SqT.same hs h2, SqT.same hs h3⟩⟩
theorem Tn.same {K : PySem.W.Frag} {H H' : Hp} {v : V} {d : PyData} (s : Same H H') (h : Tn K H v d) : Tn K H' v d := Tn.keep (TK.of_same s) h
/-- what the parts' checks take -/
def spBodies (K : PySem.W.Frag) : Sp := fun vs H Q _ => ∃ (aw as : Addr) (vd ve : V) (p : PP) (m : Nat), vs = [.ref aw, .ref as, vd, ve] ∧ SqT K H aw (p.words.map V.str) ∧ SqT K H as (p.sources.map V.str) ∧ Tn K H vd (pairsD p.derived) ∧ Tn K H ve (pairsD p.effects) ∧
  p.Ok m ∧ m ≤ 16 ∧ ∀ H', Same H H' → Q .non H'
def progF (aw as : Addr) (vd ve : V) (dn en : Addr) : List (Str × V) := [("words", .ref aw), ("sources", .ref as), ("derived", vd), ("effects", ve), ("_derived_names", .ref dn), ("_effect_names", .ref en)]
theorem progF_put (aw as : Addr) (vd ve : V) (dn en : Addr) : putF "_effect_names" (.ref en) (putF "_derived_names" (.ref dn) (putF "effects" ve (putF "derived" vd (putF "sources" (.ref as) (putF "words" (.ref aw) []))))) = progF aw as vd ve dn en := by kernel_rfl
theorem progF_words (aw as : Addr) (vd ve : V) (dn en : Addr) : (progF aw as vd ve dn en).lookup ("words" : Str) = some (.ref aw) := by kernel_rfl
theorem progF_sources (aw as : Addr) (vd ve : V) (dn en : Addr) : (progF aw as vd ve dn en).lookup ("sources" : Str) = some (.ref as) := by kernel_rfl
theorem progF_derived (aw as : Addr) (vd ve : V) (dn en : Addr) : (progF aw as vd ve dn en).lookup ("derived" : Str) = some vd := by kernel_rfl
theorem progF_effects (aw as : Addr) (vd ve : V) (dn en : Addr) : (progF aw as vd ve dn en).lookup ("effects" : Str) = some ve := by kernel_rfl
theorem progF_dn (aw as : Addr) (vd ve : V) (dn en : Addr) : (progF aw as vd ve dn en).lookup ("_derived_names" : Str) = some (.ref dn) := by kernel_rfl
theorem progF_en (aw as : Addr) (vd ve : V) (dn en : Addr) : (progF aw as vd ve dn en).lookup ("_effect_names" : Str) = some (.ref en) := by kernel_rfl
structure ProgAt (K : PySem.W.Frag) (H : Hp) (C pa : Addr) (p : PP) : Prop where
  ex : ∃ (dx aw as : Addr) (vd ve : V), (∃ (dn en : Addr), H pa = some (.ins C dx (progF aw as vd ve dn en)) ∧ SqT K H dn (p.derived.map fun q => V.str q.1) ∧ SqT K H en (p.effects.map fun q => V.str q.1)) ∧ SqT K H aw (p.words.map V.str) ∧ SqT K H as (p.sources.map V.str) ∧ Tn K H vd (pairsD p.derived) ∧ Tn K H ve (pairsD p.effects)
theorem ProgAt.same {K : PySem.W.Frag} {H H' : Hp} {C sa : Addr} {S : PP} (h : ProgAt K H C sa S) (s : Same H H') : ProgAt K H' C sa S := by
  obtain ⟨dx, aw, as, vd, ve, ⟨dn, en, e, hdn, hen⟩, h1, h2, h3, h4⟩ := h.ex
  exact ⟨dx, aw, as, vd, ve, ⟨dn, en, s _ _ e, SqT.same s hdn, SqT.same s hen⟩, SqT.same s h1, SqT.same s h2, Tn.same s h3, Tn.same s h4⟩
def spProgram (K : PySem.W.Frag) (C : Addr) : Sp := fun vs H Q _ => ∃ (x dx aw as : Addr) (vd ve : V) (p : PP) (m : Nat), vs = [.ref x, .ref aw, .ref as, vd, ve] ∧ H x = some (.ins C dx []) ∧ SqT K H aw (p.words.map V.str) ∧ SqT K H as (p.sources.map V.str) ∧ Tn K H vd (pairsD p.derived) ∧ Tn K H ve (pairsD p.effects) ∧
  p.Ok m ∧ m ≤ 16 ∧ ∀ (dn en : Addr) H', Same H H' → SqT K (upd H' x (.ins C dx (progF aw as vd ve dn en))) dn (p.derived.map fun q => V.str q.1) → SqT K (upd H' x (.ins C dx (progF aw as vd ve dn en))) en (p.effects.map fun q => V.str q.1) → Q .non (upd H' x (.ins C dx (progF aw as vd ve dn en)))
def spBodyOf (K : PySem.W.Frag) (C : Addr) : Sp := fun vs H Q _ => ∃ (pa : Addr) (z : Str) (p : PP) (m : Nat) (q : Str × List Td.Row), vs = [.ref pa, .str z] ∧ ProgAt K H C pa p ∧ p.Ok m ∧ q ∈ p.derived ++ p.effects ∧ q.1 = z ∧
  ∀ (v : V) H', Same H H' → Tn K H' v (.tuple (rowsD q.2)) → Q v H'
def spDerivedNames (K : PySem.W.Frag) (C : Addr) : Sp := fun vs H Q _ => ∃ (pa : Addr) (p : PP) (m : Nat), vs = [.ref pa] ∧ ProgAt K H C pa p ∧ p.Ok m ∧
  ∀ (t : Addr) H', Same H H' → SqT K H' t (p.derived.map fun q => V.str q.1) → Q (.ref t) H'
section
variable {P : Program} {w : World} {K : PySem.W.Frag} {mg : Str → Option Value} {base : Heap}
theorem ok_check_body (T : Tops w K mg) (G_first_wrong_path : FnOk P w K mg base CX0 7 T.a_first_wrong_path T.d_first_wrong_path ["rows", "scope", "base", "depth"] (spFirst K T.c_Scope 4))
    (G_paths_of_rows : FnOk P w K mg base CX0 4 T.a_paths_of_rows T.d_paths_of_rows ["rows", "base"] (spPaths K 4)) :
    FnOk P w K mg base CX0 8 T.a_check_body T.d_check_body ["rows", "scope", "index"] (spBody K T.c_Scope) := by
  refine T.F_check_body.ok sc_check_body (fun vs H Q E h => ?_) (fun cdv A outer s H vs Q E hr h => ?_)
  · obtain ⟨v, sa, S, rs, i, rfl, _⟩ := h
    rfl
  obtain ⟨v, sa, S, rs, i, rfl, hD, hSc, ok, hc, q⟩ := h
  obtain ⟨a, xs, rfl, hS, hl, hx⟩ := rows_at hD
  obtain ⟨dx, aw, as, ar, e, h1, h2, h3⟩ := hSc.ex
  refine ⟨_, (pss_cons (ps_set (i := 3) sc_check_body.nd rfl (Or.inl rfl) (pe_tup (pa_cons (pe_fld (pv 1) rfl) (pa_cons (pv 2) pa_nil))))
    (pss_cons (ps_if (pt_not (pt_val (pe_callB call_isi rfl T.z_isinstance (by decide +kernel) (pa_cons (pv 0) (pa_cons (pe_bltn (v := .ty "tuple") rfl T.z_tuple (by decide +kernel) rfl) pa_nil))))) (pss_one ps_never) pss_nil)
    (pss_cons (ps_set (i := 4) sc_check_body.nd rfl (Or.inl rfl) (pe_call G_first_wrong_path (hr.mono (by omega)) rfl T.m_first_wrong_path T.F_first_wrong_path.kp T.b_first_wrong_path .nil pass0 (pa_cons (pv 0) (pa_cons (pv 1) (pa_cons (pv 3) (pa_cons pe_int pa_nil))))))
    (pss_cons (ps_if (pt_cmpR op_notN (pv 4) pe_non (nomark _)) (pss_one ps_never) pss_nil)
    (pss_one (ps_if (pt_cmpR op_gt (pe_callB call_len rfl T.z_len PySem.boot_len (pa_cons (pe_call G_paths_of_rows (hr.mono (by omega)) rfl T.m_paths_of_rows T.F_paths_of_rows.kp T.b_paths_of_rows .nil pass0 (pa_cons (pv 0) (pa_cons (pv 3) pa_nil))) pa_nil)) (pe_glob (v := .int 16) rfl T.c_MOST_ROWS ⟨_, rfl⟩) (nomark _)) (pss_one ps_never) pss_nil)))))), ?_⟩
  refine ⟨_, rfl, sa, _, dx, _, _, rfl, e, T.l_Scope, T.n_Scope_kind, scF_kind .., _, rfl, by show 2 ≤ sizeLine; decide, fun b hb => ?_⟩
  have s1 : Same H (upd H b (.tup [.str (kdS S.eff), .int i])) := Same.new hb _
  have hB : SqT K (upd H b (.tup [.str (kdS S.eff), .int i])) b [.str (kdS S.eff), .int i] := SqT.of upd_same
  show tSeq _ _ _ _ (upd H b (.tup [.str (kdS S.eff), .int i]))
  generalize upd H b (.tup [.str (kdS S.eff), .int i]) = H1 at s1 hB
  refine ⟨_, rfl, .ref a, .ty "tuple", .type "tuple", .type "tuple", true, rfl, .ty _, ty_tup (SqT.same s1 hS), kit_ty (by decide +kernel), true, rfl, if_false_of rfl ?_⟩
  refine ⟨_, rfl, _, rfl, _, rfl, _, sa, b, _, S, 1, rs, rfl, Dp.same s1 hD, hSc.same s1, hB, by simp, by simp, ok, by omega, by omega, fun H2 s2 => ?_⟩
  refine ⟨_, rfl, rfl, _, rfl, if_false_of rfl ?_⟩
  have s12 := s1.trans s2
  refine ⟨_, rfl, _, rfl, _, b, _, S, 1, rs, rfl, Dp.same s12 hD, SqT.same s2 hB, by simp, by simp, ok, by omega, by omega, by omega, fun p ys H3 s3 hp hy hyl => ?_⟩
  refine ⟨.ref p, _, rfl, .inl ⟨_, SqL.of hy, rfl⟩, _, _, rfl, rfl, _, rfl, if_false_of (decide_eq_false (by rw [hyl]; omega)) ?_⟩
  exact q H3 (s12.trans s3)
theorem ok_check_bodies (T : Tops w K mg) (G_check_body : FnOk P w K mg base CX0 8 T.a_check_body T.d_check_body ["rows", "scope", "index"] (spBody K T.c_Scope))
    (G_Scope_init : FnOk P w K mg base CX0 1 T.a_Scope_init T.d_Scope_init ["self", "kind", "words", "sources", "readable"] (spScope T.c_Scope)) :
    FnOk P w K mg base CX0 9 T.a_check_bodies T.d_check_bodies ["words", "sources", "derived", "effects"] (spBodies K) := by
  refine T.F_check_bodies.ok sc_check_bodies (fun vs H Q E h => ?_) (fun cdv A outer s H vs Q E hr h => ?_)
  · obtain ⟨aw, as, vd, ve, p, m, rfl, _⟩ := h
    rfl
  obtain ⟨aw, as, vd, ve, p, m, rfl, hW, hSo, hDe, hEf, ok, hm, q⟩ := h
  obtain ⟨ad, xs, rfl, hA, hl, hx⟩ := pairs_at hDe
  obtain ⟨ae, ys, rfl, hA2, hl2, hx2⟩ := pairs_at hEf
  refine ⟨_, (pss_cons (ps_set (i := 4) sc_check_bodies.nd rfl (Or.inl rfl) (pv 1))
    (pss_cons (ps_for PassesOwn.never rfl (pi_enumT rfl T.z_enumerate (pa_cons (pv 2) pa_nil)) (pg_tup rfl (pgs_cons (pg_name (i := 5) sc_check_bodies.nd rfl (Or.inl rfl)) (pgs_cons (pg_tup rfl (pgs_cons (pg_name (i := 6) sc_check_bodies.nd rfl (Or.inl rfl)) (pgs_cons (pg_name (i := 7) sc_check_bodies.nd rfl (Or.inl rfl)) pgs_nil))) pgs_nil))) (pss_cons (ps_expr (pe_call G_check_body (hr.mono (by omega)) rfl T.m_check_body T.F_check_body.kp T.b_check_body .nil pass0 (pa_cons (pv 7) (pa_cons (pe_make T.k_Scope G_Scope_init (hr.mono (by omega)) rfl T.m_Scope T.b_Scope_init .nil pass0 (pa_cons pe_str (pa_cons (pv 0) (pa_cons (pv 1) (pa_cons (pv 4) pa_nil))))) (pa_cons (pv 5) pa_nil)))))
    (pss_one (ps_set (i := 4) sc_check_bodies.nd rfl (Or.inl rfl) (pe_op op_catA (pv 4) (pe_tup (pa_cons (pv 6) pa_nil)))))))
    (pss_one (ps_for PassesOwn.never rfl (pi_enumT rfl T.z_enumerate (pa_cons (pv 3) pa_nil)) (pg_tup rfl (pgs_cons (pg_name (i := 5) sc_check_bodies.nd rfl (Or.inl rfl)) (pgs_cons (pg_tup rfl (pgs_cons (pg_name (i := 8) sc_check_bodies.nd rfl (Or.inl rfl)) (pgs_cons (pg_name (i := 7) sc_check_bodies.nd rfl (Or.inl rfl)) pgs_nil))) pgs_nil))) (pss_one (ps_expr (pe_call G_check_body (hr.mono (by omega)) rfl T.m_check_body T.F_check_body.kp T.b_check_body .nil pass0 (pa_cons (pv 7) (pa_cons (pe_make T.k_Scope G_Scope_init (hr.mono (by omega)) rfl T.m_Scope T.b_Scope_init .nil pass0 (pa_cons pe_str (pa_cons (pv 0) (pa_cons (pv 1) (pa_cons (pv 4) pa_nil))))) (pa_cons (pv 5) pa_nil)))))))))), ?_⟩
  refine ⟨_, rfl, ?_⟩
  refine ⟨_, rfl, ad, _, rfl, hA, for_enumT (K := K) (a := ad) (xs := xs) (fun i σ H' => ∃ (ar : Addr) (v5 v6 v7 : Option V), σ = [some (.ref aw), some (.ref as), some (.ref ad), some (.ref ae), some (.ref ar), v5, v6, v7, none] ∧ Same H H' ∧ SqT K H' ar ((p.sources ++ (p.derived.take i).map (·.1)).map V.str))
    ⟨as, none, none, none, rfl, Same.refl _, by simpa using hSo⟩ (fun i σ H' _ ⟨_, _, _, _, _, hs, _⟩ => SqT.same hs hA) ?_ ?_⟩
  · rintro i x σ H1 t hi ⟨ar, v5, v6, v7, rfl, hs, hR⟩ ht
    obtain ⟨qq, b, vr, hq, rfl, hB, hT⟩ := hx i x hi
    have hs1 : Same H (upd H1 t (.tup [.int (i : Nat), .ref b])) := hs.trans (Same.new ht _)
    have hR1 := SqT.same (Same.new ht (.tup [.int (i : Nat), .ref b])) hR
    refine ⟨t, _, rfl, SqT.of upd_same, rfl, _, _, rfl, _, _, rfl, ⟨b, _, rfl, SqT.same hs1 hB, rfl, _, _, rfl, _, _, rfl, rfl, ?_⟩⟩
    generalize upd H1 t (.tup [.int (i : Nat), .ref b]) = H2 at hs1 hR1
    obtain ⟨okd, hcd⟩ := okDer_get ok.der hq
    refine ⟨rfl, _, rfl, _, rfl, _, rfl, _, rfl, fun x dx hx hdx hne => ⟨x, dx, aw, as, ar, "derived", rfl, upd_same, rfl, _, rfl, ?_⟩⟩
    obtain ⟨H3, e3, s3, sc3⟩ := scope_made (C := T.c_Scope) (S := ⟨false, p.words, p.sources, p.sources ++ (p.derived.take i).map (·.1)⟩) hx hdx hne (SqT.same hs1 hW) (SqT.same hs1 hSo) hR1
    rw [show ("derived" : Str) = kdS false from rfl, e3]
    refine ⟨vr, x, _, qq.2, _, rfl, Dp.same (hs1.trans s3) hT.dp, sc3, okd, by omega, fun H4 s4 => ?_⟩
    have s24 := s3.trans s4
    refine ⟨_, rfl, _, rfl, by show 1 ≤ sizeLine; decide, fun t1 ht1 => ?_⟩
    have s25 := s24.trans (Same.new ht1 (.tup [.str qq.1]))
    refine cat_all (SqT.same s25 hR1) (SqT.of upd_same) (Nat.le_of_lt (small1000 ?_)) (fun ar2 H6 s6 hR6 => ?_)
    · have h1 := ok.s4
      have h2 := ok.d6
      simp
      omega
    · refine ⟨ar2, _, _, _, rfl, hs1.trans (s25.trans s6), ?_⟩
      rw [take_more hq]
      have hR7 : SqT K H6 ar2 (((p.sources ++ (p.derived.take i).map (·.1)).map V.str) ++ [V.str qq.1]) := hR6
      simpa using hR7
  · rintro σ H1 ⟨ar, v5, v6, v7, rfl, hs, hR⟩
    rw [hl, List.take_length] at hR
    refine ⟨_, rfl, ae, _, rfl, SqT.same hs hA2, for_enumT (K := K) (a := ae) (xs := ys) (fun i σ H' => ∃ (v5 v6 v7 v8 : Option V), σ = [some (.ref aw), some (.ref as), some (.ref ad), some (.ref ae), some (.ref ar), v5, v6, v7, v8] ∧ Same H1 H')
      ⟨v5, v6, v7, none, rfl, Same.refl _⟩ (fun i σ H' _ ⟨_, _, _, _, _, h⟩ => SqT.same (hs.trans h) hA2) ?_ ?_⟩
    · rintro i x σ H2 t hi ⟨v5, v6, v7, v8, rfl, hs2⟩ ht
      obtain ⟨qq, b, vr, hq, rfl, hB, hT⟩ := hx2 i x hi
      have hs3 : Same H1 (upd H2 t (.tup [.int (i : Nat), .ref b])) := hs2.trans (Same.new ht _)
      refine ⟨t, _, rfl, SqT.of upd_same, rfl, _, _, rfl, _, _, rfl, ⟨b, _, rfl, SqT.same (hs.trans hs3) hB, rfl, _, _, rfl, _, _, rfl, rfl, ?_⟩⟩
      generalize upd H2 t (.tup [.int (i : Nat), .ref b]) = H3 at hs3
      obtain ⟨okd, hcd⟩ := okEff_get ok.eff hq
      refine ⟨rfl, _, rfl, _, rfl, _, rfl, _, rfl, fun x dx hx hdx hne => ⟨x, dx, aw, as, ar, "effects", rfl, upd_same, rfl, _, rfl, ?_⟩⟩
      obtain ⟨H4, e4, s4, sc4⟩ := scope_made (C := T.c_Scope) (S := ⟨true, p.words, p.sources, p.cells⟩) hx hdx hne (SqT.same (hs.trans hs3) hW) (SqT.same (hs.trans hs3) hSo) (SqT.same hs3 hR)
      rw [show ("effects" : Str) = kdS true from rfl, e4]
      refine ⟨vr, x, _, qq.2, _, rfl, Dp.same ((hs.trans hs3).trans s4) hT.dp, sc4, okd, by omega, fun H5 s5 => ?_⟩
      exact ⟨_, _, _, _, rfl, hs3.trans (s4.trans s5)⟩
    · rintro σ H2 ⟨_, _, _, _, rfl, hs2⟩
      exact q H2 (hs.trans hs2)
end
end K68
namespace K68
open PySem PySem.Spec PyProof.Rows L2 Td
theorem names_parts {p : PP} (h : Names p.names) : Names p.sources ∧ Names (p.sources ++ p.derived.map (·.1)) ∧ Names ((p.sources ++ p.derived.map (·.1)) ++ p.effects.map (·.1)) := by
  have e : p.names = (p.sources ++ p.derived.map (·.1)) ++ p.effects.map (·.1) := rfl
  rw [e] at h
  have h2 := Names.sub h (List.sublist_append_left _ _)
  exact ⟨Names.sub h2 (List.sublist_append_left _ _), h2, h⟩
theorem pairs_append {K : PySem.W.Frag} {H : Hp} {xs ys : List V} {ps qs : List (Str × List Td.Row)} (h1 : TnAll K H xs (ps.map Td.pairD)) (h2 : TnAll K H ys (qs.map Td.pairD)) : TnAll K H (xs ++ ys) ((ps ++ qs).map Td.pairD) := by
  rw [List.map_append]; exact TnAll.append h1 h2
/-- only one pair bears a name -/
theorem pair_unique {ps : List (Str × List Td.Row)} (h : (ps.map (·.1)).Nodup) {q r : Str × List Td.Row} (hq : q ∈ ps) (hr : r ∈ ps) (e : q.1 = r.1) : q = r := by
  induction ps with
  | nil => cases hq
  | cons x l ih =>
    rw [List.map_cons, List.nodup_cons] at h
    rcases List.mem_cons.mp hq with rfl | hq'
    · rcases List.mem_cons.mp hr with rfl | hr'
      · rfl
      · exact absurd (e ▸ List.mem_map.mpr ⟨r, hr', rfl⟩) h.1
    · rcases List.mem_cons.mp hr with rfl | hr'
      · exact absurd (e.symm ▸ List.mem_map.mpr ⟨q, hq', rfl⟩) h.1
      · exact ih h.2 hq' hr'
section
variable {P : Program} {w : World} {K : PySem.W.Frag} {mg : Str → Option Value} {base : Heap}
theorem ok_check_parts (T : Tops w K mg) (G_are_names : FnOk P w K mg base CX0 2 T.a_are_names T.d_are_names ["value", "least", "most"] (spAreNames K))
    (G_are_named_pairs : FnOk P w K mg base CX0 2 T.a_are_named_pairs T.d_are_named_pairs ["value", "most", "taken"] (spNamedPairs K))
    (G_names_of : FnOk P w K mg base CX0 1 T.a_names_of T.d_names_of ["pairs"] (spNamesOf K)) :
    FnOk P w K mg base CX0 3 T.a_check_parts T.d_check_parts ["words", "sources", "derived", "effects"] (spBodies K) := by
  refine T.F_check_parts.ok sc_check_parts (fun vs H Q E h => ?_) (fun cdv A outer s H vs Q E hr h => ?_)
  · obtain ⟨aw, as, vd, ve, p, m, rfl, _⟩ := h
    rfl
  obtain ⟨aw, as, vd, ve, p, m, rfl, hW, hSo, hDe, hEf, ok, hm, q⟩ := h
  obtain ⟨n1, n2, n3⟩ := names_parts ok.nn
  have w2 := ok.w2
  have w4 := ok.w4
  have s1 := ok.s1
  have s4 := ok.s4
  have d6 := ok.d6
  have e4 := ok.e4
  refine ⟨_, (pss_cons (ps_if (pt_not (pt_val (pe_call G_are_names (hr.mono (by omega)) rfl T.m_are_names T.F_are_names.kp T.b_are_names .nil pass0 (pa_cons (pv 0) (pa_cons (pe_glob (v := .int 2) rfl T.c_LEAST_WORDS ⟨_, rfl⟩) (pa_cons (pe_glob (v := .int 4) rfl T.c_MOST_WORDS ⟨_, rfl⟩) pa_nil)))))) (pss_one ps_never) pss_nil)
    (pss_cons (ps_if (pt_not (pt_val (pe_call G_are_names (hr.mono (by omega)) rfl T.m_are_names T.F_are_names.kp T.b_are_names .nil pass0 (pa_cons (pv 1) (pa_cons (pe_glob (v := .int 1) rfl T.c_LEAST_SOURCES ⟨_, rfl⟩) (pa_cons (pe_glob (v := .int 4) rfl T.c_MOST_SOURCES ⟨_, rfl⟩) pa_nil)))))) (pss_one ps_never) pss_nil)
    (pss_cons (ps_if (pt_not (pt_val (pe_call G_are_named_pairs (hr.mono (by omega)) rfl T.m_are_named_pairs T.F_are_named_pairs.kp T.b_are_named_pairs .nil pass0 (pa_cons (pv 2) (pa_cons (pe_glob (v := .int 6) rfl T.c_MOST_DERIVED ⟨_, rfl⟩) (pa_cons (pv 1) pa_nil)))))) (pss_one ps_never) pss_nil)
    (pss_one (ps_if (pt_not (pt_val (pe_call G_are_named_pairs (hr.mono (by omega)) rfl T.m_are_named_pairs T.F_are_named_pairs.kp T.b_are_named_pairs .nil pass0 (pa_cons (pv 3) (pa_cons (pe_glob (v := .int 4) rfl T.c_MOST_EFFECTS ⟨_, rfl⟩) (pa_cons (pe_op op_catA (pv 1) (pe_call G_names_of (hr.mono (by omega)) rfl T.m_names_of T.F_names_of.kp T.b_names_of .nil pass0 (pa_cons (pv 2) pa_nil))) pa_nil)))))) (pss_one ps_never) pss_nil))))), ?_⟩
  refine ⟨_, rfl, aw, p.words, _, _, rfl, hW, ok.wn, by omega, by omega, by omega, fun H1 h1 => ⟨_, rfl, if_false_of rfl ?_⟩⟩
  refine ⟨_, rfl, as, p.sources, _, _, rfl, SqT.same h1 hSo, n1, by omega, by omega, by omega, fun H2 h2 => ⟨_, rfl, if_false_of rfl ?_⟩⟩
  have h12 := h1.trans h2
  refine ⟨_, rfl, _, rfl, vd, as, p.derived, p.sources, _, rfl, Tn.same h12 hDe, SqT.same h12 hSo, n2, by omega, by omega, by omega, fun H3 h3 => ⟨_, rfl, if_false_of rfl ?_⟩⟩
  have h13 := h12.trans h3
  refine ⟨_, rfl, _, rfl, _, rfl, vd, p.derived, rfl, Tn.same h13 hDe, by omega, fun b H4 h4 hb => ?_⟩
  have h14 := h13.trans h4
  refine cat_all (SqT.same h14 hSo) hb (Nat.le_of_lt (small1000 (by rw [List.length_map, List.length_map]; omega))) (fun c H5 h5 hc => ?_)
  refine ⟨ve, c, p.effects, p.sources ++ p.derived.map (·.1), _, rfl, Tn.same (h14.trans h5) hEf, ?_, n3, by omega, by omega, by rw [List.length_append, List.length_map]; omega, fun H6 h6 => ⟨_, rfl, if_false_of rfl ?_⟩⟩
  · have hc' : SqT K H5 c (p.sources.map V.str ++ p.derived.map fun q => V.str q.1) := hc
    rw [List.map_append, List.map_map]; exact hc'
  · exact q H6 ((h14.trans h5).trans h6)
/-- an object amid its making -/
theorem made_same {H0 H2 H3 : Hp} {x : Addr} {o o1 : HO} (s : Same H0 H2) (hx : H0 x = some o) (s3 : Same (upd H2 x o1) H3) : Same H0 (upd H3 x o) := fun b u e => by
  by_cases eb : b = x
  · subst eb; rw [hx] at e; rw [upd_same]; exact e
  · rw [upd_ne eb]; exact s3 _ _ (by rw [upd_ne eb]; exact s _ _ e)
theorem ok_program (T : Tops w K mg) (G_check_parts : FnOk P w K mg base CX0 3 T.a_check_parts T.d_check_parts ["words", "sources", "derived", "effects"] (spBodies K))
    (G_check_bodies : FnOk P w K mg base CX0 9 T.a_check_bodies T.d_check_bodies ["words", "sources", "derived", "effects"] (spBodies K))
    (G_names_of : FnOk P w K mg base CX0 1 T.a_names_of T.d_names_of ["pairs"] (spNamesOf K)) :
    FnOk P w K mg base CX0 10 T.a_Program_init T.d_Program_init ["self", "words", "sources", "derived", "effects"] (spProgram K T.c_Program) := by
  refine T.F_Program_init.ok sc_Program_init (fun vs H Q E h => ?_) (fun cdv A outer s H vs Q E hr h => ?_)
  · obtain ⟨x, dx, aw, as, vd, ve, p, m, rfl, _⟩ := h
    rfl
  obtain ⟨x, dx, aw, as, vd, ve, p, m, rfl, hx, hW, hSo, hDe, hEf, ok, hm, q⟩ := h
  refine ⟨_, (pss_cons (ps_expr (pe_call G_check_parts (hr.mono (by omega)) rfl T.m_check_parts T.F_check_parts.kp T.b_check_parts .nil pass0 (pa_cons (pv 1) (pa_cons (pv 2) (pa_cons (pv 3) (pa_cons (pv 4) pa_nil))))))
    (pss_cons (ps_expr (pe_call G_check_bodies (hr.mono (by omega)) rfl T.m_check_bodies T.F_check_bodies.kp T.b_check_bodies .nil pass0 (pa_cons (pv 1) (pa_cons (pv 2) (pa_cons (pv 3) (pa_cons (pv 4) pa_nil))))))
    (pss_cons (ps_fld (pv 0) (pv 1) rfl)
    (pss_cons (ps_fld (pv 0) (pv 2) rfl)
    (pss_cons (ps_fld (pv 0) (pv 3) rfl)
    (pss_cons (ps_fld (pv 0) (pv 4) rfl)
    (pss_cons (ps_fld (pv 0) (pe_call G_names_of (hr.mono (by omega)) rfl T.m_names_of T.F_names_of.kp T.b_names_of .nil pass0 (pa_cons (pv 3) pa_nil)) rfl)
    (pss_one (ps_fld (pv 0) (pe_call G_names_of (hr.mono (by omega)) rfl T.m_names_of T.F_names_of.kp T.b_names_of .nil pass0 (pa_cons (pv 4) pa_nil)) rfl))))))))), ?_⟩
  refine ⟨_, rfl, _, rfl, _, rfl, _, rfl, aw, as, vd, ve, p, m, rfl, hW, hSo, hDe, hEf, ok, hm, fun H1 h1 => ?_⟩
  refine ⟨_, rfl, _, rfl, _, rfl, _, rfl, aw, as, vd, ve, p, m, rfl, SqT.same h1 hW, SqT.same h1 hSo, Tn.same h1 hDe, Tn.same h1 hEf, ok, hm, fun H2 h2 => ?_⟩
  have h12 := h1.trans h2
  refine ⟨_, rfl, _, rfl, x, T.c_Program, dx, [], rfl, h12 _ _ hx, T.l_Program, T.n_Program_words, by show 0 < 1000; decide, ?_⟩
  refine ⟨_, rfl, _, rfl, x, T.c_Program, dx, _, rfl, upd_same, T.l_Program, T.n_Program_sources, by show 1 < 1000; decide, ?_⟩
  rw [upd_upd]
  refine ⟨_, rfl, _, rfl, x, T.c_Program, dx, _, rfl, upd_same, T.l_Program, T.n_Program_derived, Nat.lt_of_le_of_lt (m := 2) (Nat.le_of_eq (by kernel_rfl)) (by decide), ?_⟩
  rw [upd_upd]
  refine ⟨_, rfl, _, rfl, x, T.c_Program, dx, _, rfl, upd_same, T.l_Program, T.n_Program_effects, Nat.lt_of_le_of_lt (m := 3) (Nat.le_of_eq (by kernel_rfl)) (by decide), ?_⟩
  rw [upd_upd]
  have d6 := ok.d6
  have e4 := ok.e4
  have hx2 := h12 _ _ hx
  have tk0 : ∀ o : HO, TK H2 (upd H2 x o) := fun o => TK.upd (by rw [hx2]; trivial)
  refine ⟨_, rfl, vd, p.derived, rfl, Tn.keep (tk0 _) (Tn.same h12 hDe), by omega, fun t1 H3 s3 ht1 => ?_⟩
  have hx3 := s3 _ _ upd_same
  refine ⟨_, rfl, x, T.c_Program, dx, _, rfl, hx3, T.l_Program, T.n_Program__derived_names, Nat.lt_of_le_of_lt (m := 4) (Nat.le_of_eq (by kernel_rfl)) (by decide), ?_⟩
  have tk1 : ∀ o : HO, TK H3 (upd H3 x o) := fun o => TK.upd (by rw [hx3]; trivial)
  refine ⟨_, rfl, ve, p.effects, rfl, Tn.keep (tk1 _) (Tn.same s3 (Tn.keep (tk0 _) (Tn.same h12 hEf))), by omega, fun t2 H4 s4 ht2 => ?_⟩
  have hx4 := s4 _ _ upd_same
  refine ⟨_, rfl, x, T.c_Program, dx, _, rfl, hx4, T.l_Program, T.n_Program__effect_names, Nat.lt_of_le_of_lt (m := 5) (Nat.le_of_eq (by kernel_rfl)) (by decide), ?_⟩
  have tk2 : ∀ o : HO, TK H4 (upd H4 x o) := fun o => TK.upd (by rw [hx4]; trivial)
  have sH := made_same (made_same h12 hx s3) hx (by rw [upd_upd]; exact s4)
  rw [progF_put]
  have q2 := q t1 t2 _ sH
  rw [upd_upd] at q2
  exact q2 (SqT.tk (tk2 _) (SqT.same s4 (SqT.tk (tk1 _) ht1))) (SqT.tk (tk2 _) ht2)
theorem ok_body (T : Tops w K mg) : FnOk P w K mg base CX0 1 T.a_Program_body T.d_Program_body ["self", "name"] (spBodyOf K T.c_Program) := by
  refine T.F_Program_body.ok sc_Program_body (fun vs H Q E h => ?_) (fun cdv A outer s H vs Q E hr h => ?_)
  · obtain ⟨pa, z, p, m, qq, rfl, _⟩ := h
    rfl
  obtain ⟨pa, z, p, m, qq, rfl, hP, ok, hin, rfl, q⟩ := h
  obtain ⟨dx, aw, as, vd, ve, ⟨dn, en, e, hdn, hen⟩, h1, h2, h3, h4⟩ := hP.ex
  obtain ⟨ad, xs, rfl, hA, hTA⟩ := Tn.tup_inv h3
  obtain ⟨ae, ys, rfl, hA2, hTA2⟩ := Tn.tup_inv h4
  have d6 := ok.d6
  have e4 := ok.e4
  have lx := hTA.length
  have ly := hTA2.length
  rw [List.length_map] at lx ly
  refine ⟨_, (pss_cons (ps_for PassesOwn.never rfl (pi_tup (pe_op op_catA (pe_fld (pv 0) rfl) (pe_fld (pv 0) rfl))) (pg_tup rfl (pgs_cons (pg_name (i := 2) sc_Program_body.nd rfl (Or.inl rfl)) (pgs_cons (pg_name (i := 3) sc_Program_body.nd rfl (Or.inl rfl)) pgs_nil))) (pss_one (ps_if (pt_cmpR op_eq (pv 2) (pv 1) (nomark _)) (pss_one (ps_ret (pv 3))) pss_nil)))
    (pss_one ps_never)), ?_⟩
  refine ⟨_, rfl, pa, _, dx, _, _, rfl, e, T.l_Program, T.n_Program_derived, progF_derived .., _, rfl, pa, _, dx, _, _, rfl, e, T.l_Program, T.n_Program_effects, progF_effects .., ?_⟩
  refine cat_all hA hA2 (Nat.le_of_lt (small1000 (by omega))) (fun c H1 s1 hc => ?_)
  have hT : Tn K H1 (.ref c) (pairsD (p.derived ++ p.effects)) := .tup hc (TnAll.keep (TK.of_same s1) (pairs_append hTA hTA2))
  obtain ⟨c', zs, e2, hC, hl, hx⟩ := pairs_at hT
  cases e2
  have nd : ((p.derived ++ p.effects).map (·.1)).Nodup := by
    have := ok.nn.nd
    unfold PP.names at this
    rw [List.append_assoc] at this
    rw [List.map_append]
    exact this.sublist (List.sublist_append_right _ _)
  refine ⟨c, rfl, ⟨_, hC⟩, for_tup (K := K) (a := c) (xs := zs) (fun i σ H' => ∃ (v2 v3 : Option V), σ = [some (.ref pa), some (.str qq.1), v2, v3] ∧ Same H1 H' ∧ ∀ j r, j < i → (p.derived ++ p.effects)[j]? = some r → r.1 ≠ qq.1)
    ⟨none, none, rfl, Same.refl _, fun j r h => absurd h (Nat.not_lt_zero j)⟩ (fun i σ H' _ ⟨_, _, _, hs, _⟩ => SqT.same hs hC) ?_ ?_⟩
  · rintro i x σ H2 hi ⟨v2, v3, rfl, hs, hno⟩
    obtain ⟨r, b, vr, hr1, rfl, hB, hR⟩ := hx i x hi
    refine ⟨b, _, rfl, SqT.same hs hB, rfl, _, _, rfl, _, _, rfl, rfl, ?_⟩
    refine ⟨_, rfl, _, rfl, rfl, _, rfl, ?_⟩
    by_cases en : r.1 = qq.1
    · refine if_true_of (by rw [en]; exact decide_eq_true rfl) ?_
      have hrq : r = qq := pair_unique nd (List.mem_of_getElem? hr1) hin en
      subst hrq
      exact ⟨_, rfl, q vr H2 (s1.trans hs) (Tn.same hs hR)⟩
    · refine if_false_of (decide_eq_false (fun h => en (by injection h))) ⟨_, _, rfl, hs, fun j r' hj hr' => ?_⟩
      by_cases ej : j = i
      · subst ej; rw [hr1] at hr'; cases hr'; exact en
      · exact hno j r' (by omega) hr'
  · rintro σ H2 ⟨v2, v3, rfl, hs, hno⟩
    obtain ⟨j, hj⟩ := List.getElem?_of_mem hin
    exact absurd rfl (hno j qq (by rw [hl]; exact (List.getElem?_eq_some_iff.mp hj).1) hj)
def spEffectNames (K : PySem.W.Frag) (C : Addr) : Sp := fun vs H Q _ => ∃ (pa : Addr) (p : PP) (m : Nat), vs = [.ref pa] ∧ ProgAt K H C pa p ∧ p.Ok m ∧
  ∀ t H', Same H H' → SqT K H' t (p.effects.map fun r => V.str r.1) → Q (.ref t) H'
end
end K68
namespace K68
open PySem PySem.Spec PyProof.Rows L2 Td
/-! ### data of any shape, not large -/
def smB : Nat → PyData → Bool
  | 0, _ => false
  | _ + 1, .none => true
  | _ + 1, .bool _ => true
  | _ + 1, .int _ => true
  | _ + 1, .str z => decide (z.length ≤ 100) && PyData.strOk z
  | k + 1, .list ds => decide (ds.length ≤ 100) && ds.all (smB k)
  | k + 1, .tuple ds => decide (ds.length ≤ 100) && ds.all (smB k)
  | _ + 1, .dict _ => false
theorem sm_all {k : Nat} : ∀ ds : List PyData, (∀ x ∈ ds, x.canLay0 = true ∧ x.depth ≤ k) → PyData.canLayAll0 ds = true ∧ PyData.depthAll ds ≤ k
  | [], _ => ⟨rfl, by simp [PyData.depthAll]⟩
  | d :: ds, h => by
    have h1 := h d List.mem_cons_self
    have h2 := sm_all ds fun x hx => h x (List.mem_cons_of_mem _ hx)
    refine ⟨?_, ?_⟩
    · simp only [PyData.canLayAll0, h1.1, h2.1]; rfl
    · have := h1.2; have := h2.2; simp only [PyData.depthAll]; omega
theorem sm_lay : ∀ (k : Nat) (d : PyData), smB k d = true → d.canLay0 = true ∧ d.depth ≤ k
  | 0, d, h => by simp [smB] at h
  | k + 1, .none, _ => ⟨by simp only [PyData.canLay0], by simp [PyData.depth]⟩
  | k + 1, .bool _, _ => ⟨by simp only [PyData.canLay0], by simp [PyData.depth]⟩
  | k + 1, .int _, _ => ⟨by simp only [PyData.canLay0], by simp [PyData.depth]⟩
  | k + 1, .str z, h => by
    simp only [smB, Bool.and_eq_true] at h
    exact ⟨by simp only [PyData.canLay0, h.2], by simp [PyData.depth]⟩
  | k + 1, .list ds, h => by
    simp only [smB, Bool.and_eq_true, List.all_eq_true] at h
    have := sm_all ds fun x hx => sm_lay k x (h.2 x hx)
    exact ⟨by simp only [PyData.canLay0, this.1], by simp only [PyData.depth]; omega⟩
  | k + 1, .tuple ds, h => by
    simp only [smB, Bool.and_eq_true, List.all_eq_true] at h
    have := sm_all ds fun x hx => sm_lay k x (h.2 x hx)
    exact ⟨by simp only [PyData.canLay0, this.1], by simp only [PyData.depth]; omega⟩
theorem sm_tup {k : Nat} {ds : List PyData} (h : smB (k + 1) (.tuple ds) = true) : ds.length ≤ 100 ∧ ∀ x ∈ ds, smB k x = true := by
  simp only [smB, Bool.and_eq_true, List.all_eq_true, decide_eq_true_eq] at h
  exact h
theorem sm_str {k : Nat} {z : Str} (h : smB (k + 1) (.str z) = true) : z.length ≤ 100 := by
  simp only [smB, Bool.and_eq_true, decide_eq_true_eq] at h
  exact h.1
def isNmD : PyData → Bool
  | .str z => isNm z
  | _ => false
def strOf : PyData → Option Str
  | .str z => some z
  | _ => none
def strsOf (ds : List PyData) : List Str := ds.filterMap strOf
theorem strsOf_all : ∀ ds : List PyData, ds.all isNmD = true → ds = (strsOf ds).map PyData.str
  | [], _ => rfl
  | d :: ds, h => by
    rw [List.all_cons, Bool.and_eq_true] at h
    have ih := strsOf_all ds h.2
    cases d with
    | str z =>
      show PyData.str z :: ds = ((strOf (.str z)).toList ++ strsOf ds).map PyData.str
      conv => lhs; rw [ih]
      rfl
    | _ => exact absurd h.1 (by simp [isNmD])
def namesD (l m : Int) : PyData → Bool
  | .tuple ds => decide (l ≤ (ds.length : Int)) && (decide ((ds.length : Int) ≤ m) && (ds.all isNmD && decide (strsOf ds).Nodup))
  | _ => false
/-- the name of a pair -/
def pairNm : PyData → Option Str
  | .tuple [.str z, _] => if isNm z = true then some z else none
  | _ => none
def goP : List Str → List PyData → Bool
  | _, [] => true
  | bf, d :: ds => match pairNm d with
    | some z => !decide (z ∈ bf) && goP (bf ++ [z]) ds
    | none => false
def pairsOk (m : Int) (ts : List Str) : PyData → Bool
  | .tuple ds => decide ((ds.length : Int) ≤ m) && goP ts ds
  | _ => false
def spIsNmD (K : PySem.W.Frag) : Sp := fun vs H Q _ => ∃ (v : V) (d : PyData) (k : Nat), vs = [v] ∧ Dp K H v d ∧ smB k d = true ∧ ∀ H', Same H H' → Q (.bl (isNmD d)) H'
def spNamesD (K : PySem.W.Frag) : Sp := fun vs H Q _ => ∃ (v : V) (d : PyData) (k : Nat) (l m : Int), vs = [v, .int l, .int m] ∧ Dp K H v d ∧ smB k d = true ∧ ∀ H', Same H H' → Q (.bl (namesD l m d)) H'
def spPairsD (K : PySem.W.Frag) : Sp := fun vs H Q _ => ∃ (v : V) (d : PyData) (k : Nat) (m : Int) (tk : Addr) (ts : List Str), vs = [v, .int m, .ref tk] ∧ Dp K H v d ∧ smB k d = true ∧ SqT K H tk (ts.map V.str) ∧ ts.length ≤ 100 ∧ ∀ H', Same H H' → Q (.bl (pairsOk m ts d)) H'
theorem ty_lst {K : PySem.W.Frag} {H : Hp} {a : Addr} {xs : List V} (h : SqL K H a xs) : TyX K H (.ref a) (.type "list") := by
  rcases h with (h | ⟨o, h⟩) | ⟨o, its, n, h, c, _⟩
  · exact .base (.lst h)
  · exact .base (.frz h)
  · exact .kList h c
/-- the type of a datum -/
def tyD : PyData → String
  | .none => "NoneType"
  | .bool _ => "bool"
  | .int _ => "int"
  | .str _ => "str"
  | .list _ => "list"
  | .tuple _ => "tuple"
  | .dict _ => "dict"
theorem ty_data {K : PySem.W.Frag} {H : Hp} {v : V} {d : PyData} (h : Dp K H v d) : TyX K H v (.type (tyD d)) := by
  cases h with
  | non => exact .base .non
  | bl b => exact .base (.bl b)
  | int i => exact .base (.int i)
  | str z => exact .base (.str z)
  | lst hL _ => exact ty_lst hL
  | tup hT _ => exact ty_tup hT
section
variable {P : Program} {w : World} {K : PySem.W.Frag} {mg : Str → Option Value} {base : Heap}
theorem ok_is_nameD (T : Tops w K mg) : FnOk P w K mg base CX0 1 T.a_is_name T.d_is_name ["value"] (spIsNmD K) := by
  refine T.F_is_name.ok sc_is_name (fun vs H Q E h => ?_) (fun cdv A outer s H vs Q E hr h => ?_)
  · obtain ⟨v, d, k, rfl, _⟩ := h
    rfl
  obtain ⟨v, d, k, rfl, hD, hs, q⟩ := h
  refine ⟨_, (pss_cons (ps_if (PW.pt (pw_or (pt_not (pt_val (pe_callB call_isi rfl T.z_isinstance (by decide +kernel) (pa_cons (pv 0) (pa_cons (pe_bltn (v := .ty "str") rfl T.z_str (by decide +kernel) rfl) pa_nil))))) (pw_or1 (pt_not (pt_chain op_le op_le pe_int (pe_callB call_len rfl T.z_len PySem.boot_len (pa_cons (pv 0) pa_nil)) (pe_glob (v := .int 8) rfl T.c_LONGEST_NAME ⟨_, rfl⟩)))))) (pss_one (ps_ret pe_bl)) pss_nil)
    (pss_one (ps_ret (pe_callB (cr_all rfl) rfl T.z_all (by decide +kernel) (pa_cons (pe_lc (own := [("letter", 1)]) (g := gName 1) (tt := tYes) rfl sc_is_name.nd (pi_str (pv 0)) (blkOk_by (own := [("letter", 1)]) (N := N_is_name) (sc := defScope s_is_name) (by decide +kernel)) (fun _ _ _ _ _ => (pg_name (i := 1) sc_is_name.nd rfl (Or.inl rfl))) (fun _ _ _ _ _ => pts_nil) (fun _ _ _ _ _ => (pe_chain op_le_str op_le_str pe_str (pv 1) pe_str))) pa_nil))))), ?_⟩
  cases hD with
  | non => exact ⟨_, rfl, .non, .ty "str", .type "NoneType", .type "str", false, rfl, .ty _, .base .non, kit_ty (by decide +kernel), false, rfl, iteT (q H (Same.refl _))⟩
  | bl b => exact ⟨_, rfl, .bl b, .ty "str", .type "bool", .type "str", false, rfl, .ty _, .base (.bl b), kit_ty (by decide +kernel), false, rfl, iteT (q H (Same.refl _))⟩
  | int i => exact ⟨_, rfl, .int i, .ty "str", .type "int", .type "str", false, rfl, .ty _, .base (.int i), kit_ty (by decide +kernel), false, rfl, iteT (q H (Same.refl _))⟩
  | @lst a xs ds hL _ => exact ⟨_, rfl, .ref a, .ty "str", .type "list", .type "str", false, rfl, .ty _, ty_lst hL, kit_ty (by decide +kernel), false, rfl, iteT (q H (Same.refl _))⟩
  | @tup a xs ds hT _ => exact ⟨_, rfl, .ref a, .ty "str", .type "tuple", .type "str", false, rfl, .ty _, ty_tup hT, kit_ty (by decide +kernel), false, rfl, iteT (q H (Same.refl _))⟩
  | str z =>
    have z100 : z.length ≤ 100 := by
      cases k with
      | zero => simp [smB] at hs
      | succ k => exact sm_str hs
    have zs : z.length ≤ sizeLine := Nat.le_of_lt (small1000 (by omega))
    refine ⟨_, rfl, .str z, .ty "str", .type "str", .type "str", true, rfl, .ty _, .base (.str z), kit_ty (by decide +kernel), true, rfl, iteF ?_⟩
    refine ⟨_, rfl, .str z, _, rfl, ⟨zs, rfl⟩, _, _, rfl, rfl, _, rfl, ?_⟩
    by_cases c1 : 1 ≤ z.length
    · have e1 : decide ((1 : Int) ≤ (z.length : Int)) = true := decide_eq_true (by omega)
      refine if_true_of e1 ?_
      refine ⟨_, _, rfl, rfl, _, rfl, ?_⟩
      by_cases c8 : z.length ≤ 8
      · have e2 : decide ((z.length : Int) ≤ (8 : Int)) = true := decide_eq_true (by omega)
        refine if_false_of (by rw [e2]; rfl) ?_
        have ez : isNm z = z.cps.toList.all lowc := by
          unfold isNm
          rw [decide_eq_true c1, decide_eq_true c8]
          rfl
        refine ⟨_, rfl, z, rfl, fun D hD => lc_str (fun i H' => Same H H' ∧ H' D = some (.lst (((z.cps.toList.take i).map lowc).map V.bl))) ⟨Same.new hD _, upd_same⟩ ?_ ?_⟩
        · rintro i c H' hc ⟨hs', hb⟩
          have na : ("a" : Str).cps.toList = [97] := by decide +kernel
          have nz : ("z" : Str).cps.toList = [122] := by decide +kernel
          have hct : z.cps.toList[i]? = some c := by rw [Array.getElem?_toList]; exact hc
          have hic : i < z.cps.toList.length := (List.getElem?_eq_some_iff.mp hct).1
          have hz8 : z.cps.toList.length ≤ 8 := c8
          have k1 : (!decide ((⟨#[c]⟩ : Str).cps.toList < ("a" : Str).cps.toList)) = decide (97 ≤ c) := by
            rw [na]
            show (!decide ([c] < [97])) = _
            by_cases h : 97 ≤ c
            · simp [List.cons_lt_cons_iff, h]
            · have h' : c < 97 := by omega
              simp [List.cons_lt_cons_iff, h, h']
          have k2 : (!decide (("z" : Str).cps.toList < (⟨#[c]⟩ : Str).cps.toList)) = decide (c ≤ 122) := by
            rw [nz]
            show (!decide ([122] < [c])) = _
            by_cases h : c ≤ 122
            · simp [List.cons_lt_cons_iff, h]
            · have h' : 122 < c := by omega
              simp [List.cons_lt_cons_iff, h, h']
          have next : Same H (upd H' D (.lst (((z.cps.toList.take i).map lowc).map V.bl ++ [.bl (lowc c)]))) ∧ upd H' D (.lst (((z.cps.toList.take i).map lowc).map V.bl ++ [.bl (lowc c)])) D = some (.lst (((z.cps.toList.take (i + 1)).map lowc).map V.bl)) :=
            ⟨own_same hs' hD, by rw [upd_same, take_more hct, List.map_append, List.map_append]; rfl⟩
          refine ⟨rfl, ?_⟩
          refine tYes_of ?_
          refine ⟨_, rfl, _, _, rfl, rfl, _, rfl, ?_⟩
          by_cases h1 : 97 ≤ c
          · refine if_true_of (k1.trans (decide_eq_true h1)) ?_
            refine ⟨_, _, rfl, rfl, _, hb, small1000 (by rw [List.length_map, List.length_map, List.length_take]; omega), ?_⟩
            have e : lowc c = (!decide (("z" : Str).cps.toList < (⟨#[c]⟩ : Str).cps.toList)) := by rw [k2]; unfold lowc; rw [decide_eq_true h1]; rfl
            rw [e] at next
            exact next
          · refine if_false_of (k1.trans (decide_eq_false h1)) ?_
            refine ⟨_, hb, small1000 (by rw [List.length_map, List.length_map, List.length_take]; omega), ?_⟩
            have e : lowc c = false := by unfold lowc; rw [decide_eq_false h1]; rfl
            rw [e] at next
            exact next
        · rintro H' ⟨hs', hb⟩
          have hb' : H' D = some (.lst ((z.cps.toList.map lowc).map V.bl)) := by
            rw [List.take_of_length_le (by rw [Array.length_toList]; exact Nat.le_refl _)] at hb
            exact hb
          refine ⟨D, _, rfl, SqL.of hb', ?_⟩
          have e : ((z.cps.toList.map lowc).all id) = isNm z := by rw [ez, List.all_map]; rfl
          rw [e]
          exact q H' hs'
      · have e2 : decide ((z.length : Int) ≤ (8 : Int)) = false := decide_eq_false (by omega)
        refine if_true_of (by rw [e2]; rfl) ?_
        have ez : isNmD (.str z) = false := by
          show isNm z = false
          unfold isNm
          rw [decide_eq_false c8, Bool.and_false]
          rfl
        have h := q H (Same.refl _)
        rw [ez] at h
        exact h
    · have e1 : decide ((1 : Int) ≤ (z.length : Int)) = false := decide_eq_false (by omega)
      refine if_false_of e1 ?_
      have ez : isNmD (.str z) = false := by
        show isNm z = false
        unfold isNm
        rw [decide_eq_false c1]
        rfl
      have h := q H (Same.refl _)
      rw [ez] at h
      exact ⟨false, rfl, if_true_of rfl h⟩
end
end K68
namespace K68
open PySem PySem.Spec PyProof.Rows L2 Td
def isTup : PyData → Bool
  | .tuple _ => true
  | _ => false
theorem isTup_ex {d : PyData} (h : isTup d = true) : ∃ ds, d = .tuple ds := by
  cases d with
  | tuple ds => exact ⟨ds, rfl⟩
  | _ => cases h
theorem kit_tuple {K : PySem.W.Frag} (d : PyData) : PySem.W.kitOne K (.type (tyD d)) (.type "tuple") = some (isTup d) := by
  cases d with
  | none => show PySem.W.kitOne K (.type "NoneType") (.type "tuple") = some false; exact kit_ty (by decide +kernel)
  | bool b => show PySem.W.kitOne K (.type "bool") (.type "tuple") = some false; exact kit_ty (by decide +kernel)
  | int i => show PySem.W.kitOne K (.type "int") (.type "tuple") = some false; exact kit_ty (by decide +kernel)
  | str z => show PySem.W.kitOne K (.type "str") (.type "tuple") = some false; exact kit_ty (by decide +kernel)
  | list ds => show PySem.W.kitOne K (.type "list") (.type "tuple") = some false; exact kit_ty (by decide +kernel)
  | tuple ds => show PySem.W.kitOne K (.type "tuple") (.type "tuple") = some true; exact kit_ty (by decide +kernel)
  | dict kvs => show PySem.W.kitOne K (.type "dict") (.type "tuple") = some false; exact kit_ty (by decide +kernel)
theorem sm_pos {k : Nat} {d : PyData} (h : smB k d = true) : ∃ j, k = j + 1 := by
  cases k with
  | zero => simp [smB] at h
  | succ j => exact ⟨j, rfl⟩
theorem namesD_no {l m : Int} {d : PyData} (h : isTup d = false) : namesD l m d = false := by
  cases d with
  | tuple ds => cases h
  | _ => rfl
theorem pairsOk_no {m : Int} {ts : List Str} {d : PyData} (h : isTup d = false) : pairsOk m ts d = false := by
  cases d with
  | tuple ds => cases h
  | _ => rfl
theorem nodup_cnt (zs : List Str) : decide (V.int (TdSet.dcnt zs zs.length : Nat) = V.int (zs.length : Nat)) = decide zs.Nodup := by
  by_cases h : zs.Nodup
  · rw [TdSet.dcnt_nodup (Nat.le_refl _) (by rw [List.take_length]; exact h), decide_eq_true h]
    exact decide_eq_true rfl
  · rw [decide_eq_false h]
    refine decide_eq_false fun e => h ?_
    have e2 : TdSet.dcnt zs zs.length = zs.length := by injection e with e; omega
    have := TdSet.dcnt_full (Nat.le_refl _) e2
    rwa [List.take_length] at this
/-- the pair's name, in the heap -/
theorem pairNm_some {d : PyData} {z : Str} (h : pairNm d = some z) : ∃ r, d = .tuple [.str z, r] ∧ isNm z = true := by
  unfold pairNm at h
  split at h
  · rename_i y r
    split at h
    · rename_i hy
      cases h
      exact ⟨r, rfl, hy⟩
    · cases h
  · cases h
theorem pairNm_none {d : PyData} (h : pairNm d = none) : isTup d = false ∨ ∃ ds, d = .tuple ds ∧ (ds.length ≠ 2 ∨ ∃ n r, ds = [n, r] ∧ isNmD n = false) := by
  by_cases ht : isTup d = true
  · obtain ⟨ds, rfl⟩ := isTup_ex ht
    refine .inr ⟨ds, rfl, ?_⟩
    by_cases h2 : ds.length = 2
    · refine .inr ?_
      match ds, h2 with
      | [n, r], _ =>
        refine ⟨n, r, rfl, ?_⟩
        cases n with
        | str z =>
          unfold pairNm at h
          dsimp only at h
          split at h
          · cases h
          · rename_i hz
            show isNm z = false
            simpa using hz
        | _ => rfl
    · exact .inl h2
  · exact .inl (by simpa using ht)
section
variable {P : Program} {w : World} {K : PySem.W.Frag} {mg : Str → Option Value} {base : Heap}
theorem ok_are_namesD (T : Tops w K mg) (G_is_name : FnOk P w K mg base CX0 1 T.a_is_name T.d_is_name ["value"] (spIsNmD K)) :
    FnOk P w K mg base CX0 2 T.a_are_names T.d_are_names ["value", "least", "most"] (spNamesD K) := by
  refine T.F_are_names.ok sc_are_names (fun vs H Q E h => ?_) (fun cdv A outer s H vs Q E hr h => ?_)
  · obtain ⟨v, d, k, l, m, rfl, _⟩ := h
    rfl
  obtain ⟨v, d, k, l, m, rfl, hD, hsm, q⟩ := h
  refine ⟨_, (pss_cons (ps_if (PW.pt (pw_or (pt_not (pt_val (pe_callB call_isi rfl T.z_isinstance (by decide +kernel) (pa_cons (pv 0) (pa_cons (pe_bltn (v := .ty "tuple") rfl T.z_tuple (by decide +kernel) rfl) pa_nil))))) (pw_or1 (pt_not (pt_chain op_le op_le (pv 1) (pe_callB call_len rfl T.z_len PySem.boot_len (pa_cons (pv 0) pa_nil)) (pv 2)))))) (pss_one (ps_ret pe_bl)) pss_nil)
    (pss_one (ps_ret (pe_and (pe_callB (cr_all rfl) rfl T.z_all (by decide +kernel) (pa_cons (pe_lc (own := [("item", 3)]) (g := gName 3) (tt := tYes) rfl sc_are_names.nd (pi_tup (pv 0)) (blkOk_by (own := [("item", 3)]) (N := N_are_names) (sc := defScope s_are_names) (by decide +kernel)) (fun _ _ _ _ _ => (pg_name (i := 3) sc_are_names.nd rfl (Or.inl rfl))) (fun _ _ _ _ _ => pts_nil) (fun _ _ _ _ _ => (pe_call G_is_name (hr.mono (by omega)) rfl T.m_is_name T.F_is_name.kp T.b_is_name .nil pass0 (pa_cons (pv 3) pa_nil)))) pa_nil)) (pe_one (pe_cmpR op_eq (pe_lenSetT rfl rfl T.z_len rfl T.z_set (pv 0)) (pe_callB call_len rfl T.z_len PySem.boot_len (pa_cons (pv 0) pa_nil)) (nomark _))))))), ?_⟩
  refine ⟨_, rfl, v, .ty "tuple", .type (tyD d), .type "tuple", _, rfl, .ty _, ty_data hD, kit_tuple d, _, rfl, ?_⟩
  by_cases ht : isTup d = true
  · rw [ht]
    obtain ⟨ds, rfl⟩ := isTup_ex ht
    obtain ⟨j, rfl⟩ := sm_pos hsm
    obtain ⟨d100, dsm⟩ := sm_tup hsm
    obtain ⟨a, xs, rfl, hS, hA⟩ := Dp.tup_inv hD
    have xl := DpAll.length hA
    refine iteF ?_
    refine ⟨_, rfl, _, rfl, .ref a, _, rfl, .inr ⟨_, hS, rfl⟩, _, _, rfl, rfl, _, rfl, ?_⟩
    by_cases c1 : l ≤ (ds.length : Int)
    · have e1 : decide (l ≤ ((xs.length : Nat) : Int)) = true := decide_eq_true (by omega)
      refine if_true_of e1 ?_
      refine ⟨_, rfl, _, _, rfl, rfl, _, rfl, ?_⟩
      by_cases c2 : (ds.length : Int) ≤ m
      · have e2 : decide (((xs.length : Nat) : Int) ≤ m) = true := decide_eq_true (by omega)
        refine if_false_of (by rw [e2]; rfl) ?_
        refine ⟨_, rfl, a, rfl, ⟨_, hS⟩, fun D hD0 => lc_tup (K := K) (a := a) (xs := xs) (fun i H' => Same H H' ∧ H' D = some (.lst (((ds.take i).map isNmD).map V.bl)))
          ⟨Same.new hD0 _, upd_same⟩ (fun i H' _ ⟨hs, _⟩ => SqT.same hs hS) ?_ ?_⟩
        · rintro i x H' hx ⟨hs, hb⟩
          obtain ⟨d0, hd0, hx0⟩ := DpAll.get hA hx
          have hi : i < ds.length := (List.getElem?_eq_some_iff.mp hd0).1
          refine ⟨rfl, tYes_of ?_⟩
          refine ⟨_, rfl, x, d0, j, rfl, Dp.same hs hx0, dsm d0 (List.mem_of_getElem? hd0), fun H4 s4 => ⟨_, s4 _ _ hb, small1000 (by rw [List.length_map, List.length_map, List.length_take]; omega), own_same (hs.trans s4) hD0, ?_⟩⟩
          rw [upd_same, take_more hd0, List.map_append, List.map_append]
          rfl
        · rintro H' ⟨hs, hb⟩
          rw [xl, List.take_length] at hb
          have hS' := SqT.same hs hS
          have eal : ((ds.map isNmD).all id) = ds.all isNmD := by rw [List.all_map]; rfl
          refine ⟨D, _, rfl, SqL.of hb, _, rfl, ?_⟩
          by_cases c3 : ds.all isNmD = true
          · refine if_true_of (eal.trans c3) ?_
            have eds := strsOf_all ds c3
            have exs : xs = (strsOf ds).map V.str := DpAll.strs_inv (by rw [← eds]; exact hA)
            have el : (strsOf ds).length = ds.length := by have := congrArg List.length eds; rw [List.length_map] at this; exact this.symm
            rw [exs] at hS'
            refine ⟨_, rfl, a, strsOf ds, rfl, hS', by omega, _, rfl, .ref a, _, rfl, .inr ⟨_, hS', rfl⟩, rfl, ?_⟩
            rw [List.length_map, nodup_cnt]
            have h := q H' hs
            have e : namesD l m (.tuple ds) = decide (strsOf ds).Nodup := by
              show (decide (l ≤ (ds.length : Int)) && (decide ((ds.length : Int) ≤ m) && (ds.all isNmD && decide (strsOf ds).Nodup))) = _
              rw [decide_eq_true c1, decide_eq_true c2, c3]
              rfl
            rw [e] at h
            exact h
          · have c3' : ds.all isNmD = false := by simpa using c3
            refine if_false_of (eal.trans c3') ?_
            have h := q H' hs
            have e : namesD l m (.tuple ds) = false := by
              show (decide (l ≤ (ds.length : Int)) && (decide ((ds.length : Int) ≤ m) && (ds.all isNmD && decide (strsOf ds).Nodup))) = _
              rw [c3']
              simp
            rw [e] at h
            exact h
      · have e2 : decide (((xs.length : Nat) : Int) ≤ m) = false := decide_eq_false (by omega)
        refine if_true_of (by rw [e2]; rfl) ?_
        have h := q H (Same.refl _)
        have e : namesD l m (.tuple ds) = false := by
          show (decide (l ≤ (ds.length : Int)) && (decide ((ds.length : Int) ≤ m) && (ds.all isNmD && decide (strsOf ds).Nodup))) = _
          rw [decide_eq_false c2]
          simp
        rw [e] at h
        exact h
    · have e1 : decide (l ≤ ((xs.length : Nat) : Int)) = false := decide_eq_false (by omega)
      refine if_false_of e1 ?_
      have h := q H (Same.refl _)
      have e : namesD l m (.tuple ds) = false := by
        show (decide (l ≤ (ds.length : Int)) && (decide ((ds.length : Int) ≤ m) && (ds.all isNmD && decide (strsOf ds).Nodup))) = _
        rw [decide_eq_false c1]
        rfl
      rw [e] at h
      exact ⟨false, rfl, if_true_of rfl h⟩
  · have ht' : isTup d = false := by simpa using ht
    rw [ht']
    have h := q H (Same.refl _)
    rw [namesD_no ht'] at h
    exact iteT h
end
end K68
namespace K68
open PySem PySem.Spec PyProof.Rows L2 Td
/-! ### deeds, as data -/
def inStrs (ns : List Str) : PyData → Bool
  | .str z => decide (z ∈ ns)
  | _ => false
def isWriteD (p : PP) : PyData → Bool
  | .tuple [a, b] => inStrs p.sources a && inStrs p.words b
  | _ => false
def headStr : PyData → Str
  | .tuple (.str z :: _) => z
  | _ => Str.empty
def goBatch (p : PP) : List Str → List PyData → Bool
  | _, [] => true
  | seen, d :: ds => isWriteD p d && (!decide (headStr d ∈ seen) && goBatch p (seen ++ [headStr d]) ds)
def isBatchD (p : PP) : PyData → Bool
  | .tuple ds => !ds.isEmpty && goBatch p [] ds
  | _ => false
def isDeedD (p : PP) : PyData → Bool
  | .tuple (.str t :: x :: r) => if t = "write" then isWriteD p (.tuple (x :: r)) else if r.isEmpty = false then false else if t = "batch" then isBatchD p x else if t = "read" then inStrs p.cells x else false
  | _ => false
theorem eqv_strL (s : Str) (d : PyData) : PyData.eqv (.str s) d = (match d with | .str z => decide (s = z) | _ => false) := by
  cases d with
  | str z => simp only [PyData.eqv]; rfl
  | _ => simp only [PyData.eqv]
theorem eqv_strR (s : Str) (d : PyData) : PyData.eqv d (.str s) = (match d with | .str z => decide (z = s) | _ => false) := by
  cases d with
  | str z => simp only [PyData.eqv]; rfl
  | _ => simp only [PyData.eqv]
theorem any_strs (ns : List Str) (d : PyData) : ((ns.map PyData.str).any fun z => PyData.eqv z d) = inStrs ns d := by
  rw [List.any_map]
  cases d with
  | str z =>
    have e : (fun x : Str => PyData.eqv (.str x) (.str z)) = fun x => decide (x = z) := by funext x; exact eqv_strL x (.str z)
    show ns.any (fun x => PyData.eqv (.str x) (.str z)) = decide (z ∈ ns)
    rw [e]
    by_cases h : z ∈ ns
    · rw [decide_eq_true h]; exact List.any_eq_true.mpr ⟨z, h, decide_eq_true rfl⟩
    · rw [decide_eq_false h]; exact List.any_eq_false.mpr fun x hx hd => h (of_decide_eq_true hd ▸ hx)
  | _ =>
    show ns.any _ = false
    refine List.any_eq_false.mpr fun x _ => ?_
    simp [PyData.eqv]
theorem lay_strs {zs : List Str} (h : ∀ z ∈ zs, isNm z = true) : SeqAt.shaped (strsD zs) = true := by
  unfold SeqAt.shaped
  rw [Bool.and_eq_true]
  refine ⟨?_, decide_eq_true ?_⟩
  · unfold strsD; simp only [PyData.canLay0, strs_lay zs h]
  · have := strs_deep zs
    unfold strsD; simp only [PyData.depth]; omega
theorem shaped_sm {k : Nat} {d : PyData} (h : smB k d = true) (hk : k ≤ 60) : SeqAt.shaped d = true := by
  obtain ⟨h1, h2⟩ := sm_lay k d h
  unfold SeqAt.shaped
  rw [h1, Bool.true_and]
  exact decide_eq_true (by omega)
section
variable {p : PP} {m : Nat}
theorem O_words (ok : p.Ok m) : ∀ z ∈ p.words, isNm z = true := ok.wn.good
theorem O_sources (ok : p.Ok m) : ∀ z ∈ p.sources, isNm z = true := fun z hz => ok.nn.good z (List.mem_append_left _ (List.mem_append_left _ hz))
theorem O_cells (ok : p.Ok m) : ∀ z ∈ p.cells, isNm z = true := fun z hz => ok.nn.good z (List.mem_append_left _ hz)
end
def spIsWrite (K : PySem.W.Frag) (CP : Addr) : Sp := fun vs H Q _ => ∃ (pa : Addr) (v : V) (p : PP) (m : Nat) (d : PyData) (k : Nat), vs = [.ref pa, v] ∧ ProgAt K H CP pa p ∧ p.Ok m ∧ Dp K H v d ∧ smB k d = true ∧ k ≤ 50 ∧ ∀ H', Same H H' → Q (.bl (isWriteD p d)) H'
def spIsBatch (K : PySem.W.Frag) (CP : Addr) : Sp := fun vs H Q _ => ∃ (pa : Addr) (v : V) (p : PP) (m : Nat) (d : PyData) (k : Nat), vs = [.ref pa, v] ∧ ProgAt K H CP pa p ∧ p.Ok m ∧ Dp K H v d ∧ smB k d = true ∧ k ≤ 50 ∧ ∀ H', Same H H' → Q (.bl (isBatchD p d)) H'
def spIsDeed (K : PySem.W.Frag) (CP : Addr) : Sp := fun vs H Q _ => ∃ (pa : Addr) (v : V) (p : PP) (m : Nat) (d : PyData) (k : Nat), vs = [.ref pa, v] ∧ ProgAt K H CP pa p ∧ p.Ok m ∧ Dp K H v d ∧ smB k d = true ∧ k ≤ 50 ∧ ∀ H', Same H H' → Q (.bl (isDeedD p d)) H'
section
variable {P : Program} {w : World} {K : PySem.W.Frag} {mg : Str → Option Value} {base : Heap}
theorem ok_is_write (T : Tops w K mg) : FnOk P w K mg base CX0 1 T.a_is_write T.d_is_write ["program", "value"] (spIsWrite K T.c_Program) := by
  refine T.F_is_write.ok sc_is_write (fun vs H Q E h => ?_) (fun cdv A outer s H vs Q E hr h => ?_)
  · obtain ⟨pa, v, p, m, d, k, rfl, _⟩ := h
    rfl
  obtain ⟨pa, v, p, m, d, k, rfl, hP, ok, hD, hsm, hk, q⟩ := h
  obtain ⟨dx, aw, as, vd, ve, ⟨dn, en, e, hdn, hen⟩, h1, h2, h3, h4⟩ := hP.ex
  refine ⟨_, (pss_cons (ps_if (PW.pt (pw_or (pt_not (pt_val (pe_callB call_isi rfl T.z_isinstance (by decide +kernel) (pa_cons (pv 1) (pa_cons (pe_bltn (v := .ty "tuple") rfl T.z_tuple (by decide +kernel) rfl) pa_nil))))) (pw_or1 (pt_cmpR op_ne (pe_callB call_len rfl T.z_len PySem.boot_len (pa_cons (pv 1) pa_nil)) pe_int (nomark _))))) (pss_one (ps_ret pe_bl)) pss_nil)
    (pss_one (ps_ret (pe_and (pe_cmpR (op_inDT (units65 hr)) (pe_ix ix_tup (pv 1) pe_int (fun _ _ => rfl)) (pe_fld (pv 0) rfl) (by rfl)) (pe_one (pe_cmpR (op_inDT (units65 hr)) (pe_ix ix_tup (pv 1) pe_int (fun _ _ => rfl)) (pe_fld (pv 0) rfl) (by rfl))))))), ?_⟩
  refine ⟨_, rfl, v, .ty "tuple", .type (tyD d), .type "tuple", _, rfl, .ty _, ty_data hD, kit_tuple d, _, rfl, ?_⟩
  by_cases ht : isTup d = true
  · rw [ht]
    obtain ⟨ds, rfl⟩ := isTup_ex ht
    obtain ⟨j, rfl⟩ := sm_pos hsm
    obtain ⟨d100, dsm⟩ := sm_tup hsm
    obtain ⟨a, xs, rfl, hS, hA⟩ := Dp.tup_inv hD
    have xl := DpAll.length hA
    refine iteF ?_
    refine ⟨_, rfl, .ref a, _, rfl, .inr ⟨_, hS, rfl⟩, rfl, _, rfl, ?_⟩
    by_cases l2 : ds.length = 2
    · refine if_false_of (by rw [decide_eq_true (show V.int (xs.length : Nat) = .int 2 by congr 1; omega)]; rfl) ?_
      match ds, l2 with
      | [d1, d2], _ =>
        cases hA with
        | @cons x1 _ _ _ g1 t1 =>
          cases t1 with
          | @cons x2 _ _ _ g2 t2 =>
            cases t2
            have m1 := dsm d1 (by simp)
            have m2 := dsm d2 (by simp)
            refine ⟨_, rfl, a, _, 0, _, rfl, rfl, hS, rfl, _, rfl, pa, _, dx, _, _, rfl, e, T.l_Program, T.n_Program_sources, progF_sources .., d1, p.sources.map PyData.str, g1, .tup h2 (DpAll.strs _), shaped_sm m1 (by omega), lay_strs (O_sources ok), _, rfl, ?_⟩
            have ed : isWriteD p (.tuple [d1, d2]) = (inStrs p.sources d1 && inStrs p.words d2) := rfl
            rw [ed] at q
            show (if ((p.sources.map PyData.str).any fun z => PyData.eqv z d1) = true then _ else _)
            rw [any_strs]
            cases hb : inStrs p.sources d1 with
            | false => rw [hb] at q; exact iteF (q H (Same.refl _))
            | true =>
              rw [hb] at q
              refine iteT ?_
              refine ⟨_, rfl, a, _, 1, _, rfl, rfl, hS, rfl, _, rfl, pa, _, dx, _, _, rfl, e, T.l_Program, T.n_Program_words, progF_words .., d2, p.words.map PyData.str, g2, .tup h1 (DpAll.strs _), shaped_sm m2 (by omega), lay_strs (O_words ok), ?_⟩
              show Q (.bl ((p.words.map PyData.str).any fun z => PyData.eqv z d2)) H
              rw [any_strs]
              exact q H (Same.refl _)
    · refine if_true_of (by rw [decide_eq_false (show ¬ V.int (xs.length : Nat) = .int 2 from fun z => by injection z with z; omega)]; rfl) ?_
      have ed : isWriteD p (.tuple ds) = false := by
        unfold isWriteD
        split
        · rename_i e; cases e; exact absurd rfl l2
        · rfl
      rw [ed] at q
      exact q H (Same.refl _)
  · have ht' : isTup d = false := by simpa using ht
    rw [ht']
    have e : isWriteD p d = false := by
      cases d with
      | tuple ds => cases ht'
      | _ => rfl
    rw [e] at q
    exact iteT (q H (Same.refl _))
theorem ok_is_batch (T : Tops w K mg) (G_is_write : FnOk P w K mg base CX0 1 T.a_is_write T.d_is_write ["program", "value"] (spIsWrite K T.c_Program)) :
    FnOk P w K mg base CX0 2 T.a_is_batch T.d_is_batch ["program", "value"] (spIsBatch K T.c_Program) := by
  refine T.F_is_batch.ok sc_is_batch (fun vs H Q E h => ?_) (fun cdv A outer s H vs Q E hr h => ?_)
  · obtain ⟨pa, v, p, m, d, k, rfl, _⟩ := h
    rfl
  obtain ⟨pa, v, p, m, d, k, rfl, hP, ok, hD, hsm, hk, q⟩ := h
  refine ⟨_, (pss_cons (ps_if (PW.pt (pw_or (pt_not (pt_val (pe_callB call_isi rfl T.z_isinstance (by decide +kernel) (pa_cons (pv 1) (pa_cons (pe_bltn (v := .ty "tuple") rfl T.z_tuple (by decide +kernel) rfl) pa_nil))))) (pw_or1 (pt_cmpR op_eq (pe_callB call_len rfl T.z_len PySem.boot_len (pa_cons (pv 1) pa_nil)) pe_int (nomark _))))) (pss_one (ps_ret pe_bl)) pss_nil)
    (pss_cons (ps_set (i := 2) sc_is_batch.nd rfl (Or.inl rfl) (pe_lst pa_nil))
    (pss_cons (ps_for PassesOwn.never rfl (pi_tup (pv 1)) (pg_name (i := 3) sc_is_batch.nd rfl (Or.inl rfl)) (pss_cons (ps_if (PW.pt (pw_or (pt_not (pt_val (pe_call G_is_write (hr.mono (by omega)) rfl T.m_is_write T.F_is_write.kp T.b_is_write .nil pass0 (pa_cons (pv 0) (pa_cons (pv 3) pa_nil))))) (pw_or1 (pt_cmpR op_in_seq (pe_ix ix_tup (pv 3) pe_int (fun _ _ => rfl)) (pv 2) (by rfl))))) (pss_one (ps_ret pe_bl)) pss_nil)
    (pss_one (ps_expr (pe_bm PySem.F.plainAttrs_list PySem.F.slot_list_append PySem.F.type_list_append mt_append (pv 2) (pa_cons (pe_ix ix_tup (pv 3) pe_int (fun _ _ => rfl)) pa_nil))))))
    (pss_one (ps_ret pe_bl))))), ?_⟩
  refine ⟨_, rfl, v, .ty "tuple", .type (tyD d), .type "tuple", _, rfl, .ty _, ty_data hD, kit_tuple d, _, rfl, ?_⟩
  by_cases ht : isTup d = true
  · rw [ht]
    obtain ⟨ds, rfl⟩ := isTup_ex ht
    obtain ⟨j, rfl⟩ := sm_pos hsm
    obtain ⟨d100, dsm⟩ := sm_tup hsm
    obtain ⟨a, xs, rfl, hS, hA⟩ := Dp.tup_inv hD
    have xl := DpAll.length hA
    refine iteF ?_
    refine ⟨_, rfl, .ref a, _, rfl, .inr ⟨_, hS, rfl⟩, rfl, _, rfl, ?_⟩
    by_cases l0 : ds = []
    · subst l0
      refine if_true_of (by rw [xl]; rfl) ?_
      exact q H (Same.refl _)
    · have lp : 0 < ds.length := List.length_pos_iff.mpr l0
      refine if_false_of (by rw [decide_eq_false (show ¬ V.int (xs.length : Nat) = .int 0 from fun z => by injection z with z; omega)]) ?_
      have eB : isBatchD p (.tuple ds) = goBatch p [] ds := by
        cases ds with
        | nil => exact absurd rfl l0
        | cons x l => rfl
      rw [eB] at q
      refine ⟨by show 0 ≤ sizeLine; decide, fun b hb => ?_⟩
      have s1 := Same.new hb (.lst [])
      refine ⟨_, rfl, a, rfl, ⟨_, SqT.same s1 hS⟩, for_tup (K := K) (a := a) (xs := xs) (fun i σ H' => ∃ (seen : List Str) (v3 : Option V), σ = [some (.ref pa), some (.ref a), some (.ref b), v3] ∧ Same H H' ∧ H' b = some (.lst (seen.map V.str)) ∧ seen.length = i ∧ goBatch p [] ds = goBatch p seen (ds.drop i))
        ⟨[], none, rfl, s1, upd_same, rfl, rfl⟩ (fun i σ H' _ ⟨_, _, _, hs, _⟩ => SqT.same hs hS) ?_ ?_⟩
      · rintro i x σ H1 hi ⟨seen, v3, rfl, hs, hl, sl, eg⟩
        obtain ⟨d0, hd0, hx0⟩ := DpAll.get hA hi
        have hid : i < ds.length := (List.getElem?_eq_some_iff.mp hd0).1
        have m0 := dsm d0 (List.mem_of_getElem? hd0)
        have e1 : ds.drop i = d0 :: ds.drop (i + 1) := by
          rw [List.drop_eq_getElem_cons hid]
          rw [List.getElem?_eq_getElem hid] at hd0
          cases hd0
          rfl
        rw [e1] at eg
        have eg2 : goBatch p seen (d0 :: ds.drop (i + 1)) = (isWriteD p d0 && (!decide (headStr d0 ∈ seen) && goBatch p (seen ++ [headStr d0]) (ds.drop (i + 1)))) := rfl
        rw [eg2] at eg
        refine ⟨_, rfl, _, rfl, pa, x, p, m, d0, j, rfl, hP.same hs, ok, Dp.same hs hx0, m0, by omega, fun H2 s2 => ⟨_, rfl, ?_⟩⟩
        have hs2 := hs.trans s2
        have hl2 := s2 _ _ hl
        cases hw : isWriteD p d0 with
        | false =>
          rw [hw] at eg
          refine if_true_of rfl (if_true_of rfl ?_)
          rw [eg] at q
          exact q H2 hs2
        | true =>
          rw [hw, Bool.true_and] at eg
          refine if_false_of rfl ?_
          obtain ⟨z1, z2, rfl, z1m, z2m⟩ : ∃ z1 z2, d0 = .tuple [.str z1, .str z2] ∧ z1 ∈ p.sources ∧ z2 ∈ p.words := by
            unfold isWriteD at hw
            split at hw
            · rename_i c1 c2
              rw [Bool.and_eq_true] at hw
              obtain ⟨w1, w2⟩ := hw
              unfold inStrs at w1 w2
              split at w1
              · split at w2
                · exact ⟨_, _, rfl, of_decide_eq_true w1, of_decide_eq_true w2⟩
                · cases w2
              · cases w1
            · cases hw
          obtain ⟨b2, es, rfl, hB2, hE2⟩ := Dp.tup_inv (Dp.same hs2 hx0)
          obtain ⟨vw, rfl⟩ : ∃ vw, es = [.str z1, vw] := by
            cases hE2 with
            | cons a1 a2 =>
              cases a1
              cases a2 with
              | cons a3 a4 => cases a4; exact ⟨_, rfl⟩
          have eh : headStr (.tuple [.str z1, .str z2]) = z1 := rfl
          rw [eh] at eg
          refine ⟨_, rfl, b2, _, 0, _, rfl, rfl, hB2, rfl, _, rfl, b, _, rfl, .inl (SqL.of hl2), rfl, L2.flat_strs _, _, rfl, ?_⟩
          by_cases hin : z1 ∈ seen
          · rw [decide_eq_true hin] at eg
            refine if_true_of (by show inV (.str z1) (seen.map V.str) = true; rw [inV_strs, decide_eq_true hin]) ?_
            have eg' : goBatch p [] ds = false := eg
            rw [eg'] at q
            exact q H2 hs2
          · rw [decide_eq_false hin] at eg
            refine if_false_of (by show inV (.str z1) (seen.map V.str) = false; rw [inV_strs, decide_eq_false hin]) ?_
            have eg' : goBatch p [] ds = goBatch p (seen ++ [z1]) (ds.drop (i + 1)) := eg
            refine ⟨_, rfl, .inl ⟨rfl, _, SqL.of hl2⟩, _, rfl, b2, _, 0, _, rfl, rfl, hB2, rfl, b, _, _, rfl, rfl, hl2, small1000 (by rw [List.length_map]; omega), ?_⟩
            exact ⟨seen ++ [z1], _, rfl, Same.own hs2 hb, by rw [upd_same, List.map_append]; rfl, by rw [List.length_append, sl]; rfl, eg'⟩
      · rintro σ H1 ⟨seen, v3, rfl, hs, hl, sl, eg⟩
        rw [xl, List.drop_length] at eg
        have eg' : goBatch p [] ds = true := eg
        rw [eg'] at q
        exact q H1 hs
  · have ht' : isTup d = false := by simpa using ht
    rw [ht']
    have e : isBatchD p d = false := by
      cases d with
      | tuple ds => cases ht'
      | _ => rfl
    rw [e] at q
    exact iteT (q H (Same.refl _))
end
end K68
namespace K68
open PySem PySem.Spec PyProof.Rows L2 Td
theorem kit_str {K : PySem.W.Frag} (d : PyData) : PySem.W.kitOne K (.type (tyD d)) (.type "str") = some (strOf d).isSome := by
  cases d with
  | none => show PySem.W.kitOne K (.type "NoneType") (.type "str") = some false; exact kit_ty (by decide +kernel)
  | bool b => show PySem.W.kitOne K (.type "bool") (.type "str") = some false; exact kit_ty (by decide +kernel)
  | int i => show PySem.W.kitOne K (.type "int") (.type "str") = some false; exact kit_ty (by decide +kernel)
  | str z => show PySem.W.kitOne K (.type "str") (.type "str") = some true; exact kit_ty (by decide +kernel)
  | list ds => show PySem.W.kitOne K (.type "list") (.type "str") = some false; exact kit_ty (by decide +kernel)
  | tuple ds => show PySem.W.kitOne K (.type "tuple") (.type "str") = some false; exact kit_ty (by decide +kernel)
  | dict kvs => show PySem.W.kitOne K (.type "dict") (.type "str") = some false; exact kit_ty (by decide +kernel)
theorem sm_of_tup {k : Nat} {ds : List PyData} (hl : ds.length ≤ 100) (h : ∀ x ∈ ds, smB k x = true) : smB (k + 1) (.tuple ds) = true := by
  simp only [smB, Bool.and_eq_true, List.all_eq_true, decide_eq_true_eq]
  exact ⟨hl, h⟩
theorem sl_all {K : PySem.W.Frag} {H : Hp} {a : Addr} {xs : List V} {lo hi : Option Int} {Q : VK} (hA : SqT K H a xs) (k : ∀ (p : Addr) H', Same H H' → SqT K H' p (cutV xs lo hi) → Q (.ref p) H') : rSlA K (.ref a) lo hi H Q := by
  refine ⟨a, xs, rfl, hA, fun h => k a H (Same.refl _) ?_, fun _ p hp => k p _ (Same.new hp _) (SqT.of upd_same)⟩
  unfold cutV
  rw [h.1, h.2, List.drop_zero, Nat.sub_zero, List.take_length]
  exact hA
theorem cut_from (xs : List V) (k : Nat) : cutV xs (some (k : Int)) none = xs.drop k := by
  unfold cutV
  rw [HT.sIx_none, HT.sIx_nat]
  by_cases h : k ≤ xs.length
  · rw [Nat.min_eq_left h]
    exact List.take_of_length_le (by rw [List.length_drop]; omega)
  · rw [Nat.min_eq_right (by omega), Nat.sub_self, List.take_zero, List.drop_of_length_le (by omega)]
theorem parts_at {K : PySem.W.Frag} {H : Hp} {v : V} {p : PP} (h : Tn K H v p.data) : ∃ (pa aw as : Addr) (vd ve : V), v = .ref pa ∧ SqT K H pa [.ref aw, .ref as, vd, ve] ∧ SqT K H aw (p.words.map V.str) ∧ SqT K H as (p.sources.map V.str) ∧ Tn K H vd (pairsD p.derived) ∧ Tn K H ve (pairsD p.effects) := by
  obtain ⟨pa, xs, rfl, hS, hT⟩ := Tn.tup_inv h
  cases hT with
  | cons c1 t1 =>
    cases t1 with
    | cons c2 t2 =>
      cases t2 with
      | cons c3 t3 =>
        cases t3 with
        | cons c4 t4 =>
          cases t4
          obtain ⟨aw, ws, rfl, hw, hw2⟩ := Tn.tup_inv c1
          obtain ⟨as, ss, rfl, hs, hs2⟩ := Tn.tup_inv c2
          have e1 := hw2.strs_inv
          have e2 := hs2.strs_inv
          subst e1 e2
          exact ⟨pa, aw, as, _, _, rfl, hS, hw, hs, c3, c4⟩
theorem all_cons {K : PySem.W.Frag} {H : Hp} {xs : List V} {d : PyData} {ds : List PyData} (h : DpAll K H xs (d :: ds)) : ∃ x r, xs = x :: r ∧ Dp K H x d ∧ DpAll K H r ds := by
  cases h with
  | cons a b => exact ⟨_, _, rfl, a, b⟩
theorem deed_eq (p : PP) (d0 d1 : PyData) (r : List PyData) : isDeedD p (.tuple (d0 :: d1 :: r)) = if PyData.eqv d0 (.str "write") = true then isWriteD p (.tuple (d1 :: r)) else if r.isEmpty = false then false else if PyData.eqv d0 (.str "batch") = true then isBatchD p d1 else if PyData.eqv d0 (.str "read") = true then inStrs p.cells d1 else false := by
  rw [eqv_strR, eqv_strR, eqv_strR]
  cases d0 with
  | str z => simp only [isDeedD, decide_eq_true_eq]
  | _ => simp [isDeedD]
theorem deed_short {p : PP} {ds : List PyData} (h : ds.length < 2) : isDeedD p (.tuple ds) = false := by
  match ds, h with
  | [], _ => rfl
  | [d0], _ => cases d0 <;> rfl
theorem shaped_lit {z : Str} (h : PyData.strOk z = true) : SeqAt.shaped (.str z) = true := by
  unfold SeqAt.shaped
  rw [Bool.and_eq_true]
  exact ⟨by simp only [PyData.canLay0, h], decide_eq_true (by simp only [PyData.depth]; decide)⟩
theorem same_all {K : PySem.W.Frag} {H H' : Hp} (s : Same H H') : ∀ {xs : List V} {ds : List PyData}, DpAll K H xs ds → DpAll K H' xs ds
  | _, _, .nil => .nil
  | _, _, .cons a b => .cons (Dp.same s a) (same_all s b)
def spCells (K : PySem.W.Frag) (CP : Addr) : Sp := fun vs H Q _ => ∃ (pa : Addr) (p : PP) (m : Nat), vs = [.ref pa] ∧ ProgAt K H CP pa p ∧ p.Ok m ∧
  ∀ t H', Same H H' → SqT K H' t (p.cells.map V.str) → Q (.ref t) H'
def spDeedX (K : PySem.W.Frag) (CP : Addr) : Sp := fun vs H Q E => spIsDeed K CP vs H Q E ∨ ∃ (pa : Addr) (v : V), vs = [.ref pa, v] ∧ TyX K H v (.type "dict") ∧ ∀ H', Same H H' → Q (.bl false) H'
section
variable {P : Program} {w : World} {K : PySem.W.Frag} {mg : Str → Option Value} {base : Heap}
theorem ok_cells (T : Tops w K mg) :
    FnOk P w K mg base CX0 2 T.a_Program_cells T.d_Program_cells ["self"] (spCells K T.c_Program) := by
  refine T.F_Program_cells.ok sc_Program_cells (fun vs H Q E h => ?_) (fun cdv A outer s H vs Q E hr h => ?_)
  · obtain ⟨pa, p, m, rfl, _⟩ := h
    rfl
  obtain ⟨pa, p, m, rfl, hP, ok, q⟩ := h
  obtain ⟨dx, aw, as, vd, ve, ⟨dn, en, e, hdn, hen⟩, h1, h2, h3, h4⟩ := hP.ex
  have d6 := ok.d6
  have s4 := ok.s4
  refine ⟨_, (pss_one (ps_ret (pe_op op_catA (pe_fld (pv 0) rfl) (pe_fld (pv 0) rfl)))), ?_⟩
  refine ⟨_, rfl, pa, _, dx, _, _, rfl, e, T.l_Program, T.n_Program_sources, progF_sources .., _, rfl, pa, _, dx, _, _, rfl, e, T.l_Program, T.n_Program__derived_names, progF_dn .., ?_⟩
  refine cat_all h2 hdn (Nat.le_of_lt (small1000 (by rw [List.length_map, List.length_map]; omega))) (fun c H2 t2 hc => q c H2 t2 ?_)
  unfold PP.cells
  rw [List.map_append, List.map_map]
  exact hc
theorem ok_is_deed (T : Tops w K mg) (G_is_write : FnOk P w K mg base CX0 1 T.a_is_write T.d_is_write ["program", "value"] (spIsWrite K T.c_Program))
    (G_is_batch : FnOk P w K mg base CX0 2 T.a_is_batch T.d_is_batch ["program", "value"] (spIsBatch K T.c_Program))
    (G_Program_cells : FnOk P w K mg base CX0 2 T.a_Program_cells T.d_Program_cells ["self"] (spCells K T.c_Program)) :
    FnOk P w K mg base CX0 3 T.a_is_deed T.d_is_deed ["program", "value"] (spDeedX K T.c_Program) := by
  refine T.F_is_deed.ok sc_is_deed (fun vs H Q E h => ?_) (fun cdv A outer s H vs Q E hr h => ?_)
  · rcases h with ⟨pa, v, p, m, d, k, rfl, _⟩ | ⟨pa, v, rfl, _⟩ <;> rfl
  refine ⟨_, (pss_cons (ps_if (PW.pt (pw_or (pt_not (pt_val (pe_callB call_isi rfl T.z_isinstance (by decide +kernel) (pa_cons (pv 1) (pa_cons (pe_bltn (v := .ty "tuple") rfl T.z_tuple (by decide +kernel) rfl) pa_nil))))) (pw_or1 (pt_cmpR op_lt (pe_callB call_len rfl T.z_len PySem.boot_len (pa_cons (pv 1) pa_nil)) pe_int (nomark _))))) (pss_one (ps_ret pe_bl)) pss_nil)
    (pss_cons (ps_if (pt_cmpR (op_eqD hr.units) (pe_ix ix_tup (pv 1) pe_int (fun _ _ => rfl)) pe_str (nomark _)) (pss_one (ps_ret (pe_call G_is_write (hr.mono (by omega)) rfl T.m_is_write T.F_is_write.kp T.b_is_write .nil pass0 (pa_cons (pv 0) (pa_cons (pe_slice sl_tupA (pv 1) (po_some pe_int) po_none) pa_nil))))) pss_nil)
    (pss_cons (ps_if (pt_cmpR op_ne (pe_callB call_len rfl T.z_len PySem.boot_len (pa_cons (pv 1) pa_nil)) pe_int (nomark _)) (pss_one (ps_ret pe_bl)) pss_nil)
    (pss_cons (ps_if (pt_cmpR (op_eqD hr.units) (pe_ix ix_tup (pv 1) pe_int (fun _ _ => rfl)) pe_str (nomark _)) (pss_one (ps_ret (pe_call G_is_batch (hr.mono (by omega)) rfl T.m_is_batch T.F_is_batch.kp T.b_is_batch .nil pass0 (pa_cons (pv 0) (pa_cons (pe_ix ix_tup (pv 1) pe_int (fun _ _ => rfl)) pa_nil))))) pss_nil)
    (pss_one (ps_ret (pe_and (pe_cmpR (op_eqD hr.units) (pe_ix ix_tup (pv 1) pe_int (fun _ _ => rfl)) pe_str (nomark _)) (pe_one (pe_cmpR (op_inDT (units65 hr)) (pe_ix ix_tup (pv 1) pe_int (fun _ _ => rfl)) (pe_meth0 (pv 0) T.l_Program T.t_Program_cells G_Program_cells (hr.mono (by omega)) T.b_Program_cells .nil pass0) (by rfl)))))))))), ?_⟩
  rcases h with ⟨pa, v, p, m, d, k, rfl, hP, ok, hD, hsm, hk, q⟩ | ⟨pa, v, rfl, hT, q⟩
  · refine ⟨_, rfl, v, .ty "tuple", .type (tyD d), .type "tuple", _, rfl, .ty _, ty_data hD, kit_tuple d, _, rfl, ?_⟩
    by_cases ht : isTup d = true
    · rw [ht]
      obtain ⟨ds, rfl⟩ := isTup_ex ht
      obtain ⟨j, rfl⟩ := sm_pos hsm
      obtain ⟨d100, dsm⟩ := sm_tup hsm
      obtain ⟨a, xs, rfl, hS, hA⟩ := Dp.tup_inv hD
      have xl := DpAll.length hA
      refine iteF ?_
      refine ⟨_, rfl, .ref a, _, rfl, .inr ⟨_, hS, rfl⟩, _, _, rfl, rfl, _, rfl, ?_⟩
      by_cases l2 : ds.length < 2
      · refine if_true_of (decide_eq_true (by omega)) ?_
        rw [deed_short l2] at q
        exact q H (Same.refl _)
      refine if_false_of (decide_eq_false (by omega)) ?_
      match ds, l2 with
      | d0 :: d1 :: r, _ =>
        have hA' := hA
        obtain ⟨x0, xs1, rfl, g0, t0⟩ := all_cons hA
        obtain ⟨x1, xr, rfl, g1, t1⟩ := all_cons t0
        rw [deed_eq] at q
        have m0 := dsm d0 (by simp)
        have m1 := dsm d1 (by simp)
        refine ⟨_, rfl, a, _, 0, _, rfl, rfl, hS, atI_nat (j := 0) rfl, d0, .str "write", g0, .str _, shaped_sm m0 (by omega), shaped_lit (by decide +kernel), _, rfl, ?_⟩
        cases e0 : PyData.eqv d0 (.str "write") with
        | true =>
          rw [e0] at q
          refine if_true_of rfl ?_
          refine ⟨_, rfl, _, rfl, 1, rfl, ?_⟩
          try dsimp only [tNoPart]
          refine sl_all hS fun p1 H1 s1 h1 => ?_
          have h1' : SqT K H1 p1 ((x0 :: x1 :: xr).drop 1) := by rw [← cut_from _ 1]; exact h1
          refine ⟨pa, .ref p1, p, m, .tuple (d1 :: r), j + 1, rfl, hP.same s1, ok, .tup h1' (.cons (Dp.same s1 g1) (same_all s1 t1)), ?_, by omega, fun H2 s2 => q H2 (s1.trans s2)⟩
          exact sm_of_tup (by simp at d100 ⊢; omega) fun x hx => dsm x (List.mem_cons_of_mem _ hx)
        | false =>
          rw [e0] at q
          refine if_false_of rfl ?_
          refine ⟨_, rfl, .ref a, _, rfl, .inr ⟨_, hS, rfl⟩, rfl, _, rfl, ?_⟩
          by_cases l3 : r = []
          · subst l3
            cases t1
            refine if_false_of (by rfl) ?_
            refine ⟨_, rfl, a, _, 0, _, rfl, rfl, hS, rfl, d0, .str "batch", g0, .str _, shaped_sm m0 (by omega), shaped_lit (by decide +kernel), _, rfl, ?_⟩
            cases e1 : PyData.eqv d0 (.str "batch") with
            | true =>
              rw [e1] at q
              refine if_true_of rfl ?_
              exact ⟨_, rfl, _, rfl, a, _, 1, _, rfl, rfl, hS, rfl, pa, x1, p, m, d1, j, rfl, hP, ok, g1, m1, by omega, fun H2 s2 => q H2 s2⟩
            | false =>
              rw [e1] at q
              refine if_false_of rfl ?_
              refine ⟨_, rfl, a, _, 0, _, rfl, rfl, hS, rfl, d0, .str "read", g0, .str _, shaped_sm m0 (by omega), shaped_lit (by decide +kernel), _, rfl, ?_⟩
              cases e2 : PyData.eqv d0 (.str "read") with
              | false => rw [e2] at q; exact if_false_of rfl (q H (Same.refl _))
              | true =>
                rw [e2] at q
                refine if_true_of rfl ?_
                obtain ⟨dx, _, _, _, _, ⟨_, _, e, _, _⟩, _⟩ := hP.ex
                refine ⟨_, rfl, a, _, 1, _, rfl, rfl, hS, rfl, _, rfl, pa, dx, _, rfl, e, by kernel_rfl, pa, p, m, rfl, hP, ok, fun t H1 s1 ht => ?_⟩
                refine ⟨d1, p.cells.map PyData.str, Dp.same s1 g1, .tup ht (DpAll.strs _), shaped_sm m1 (by omega), lay_strs (O_cells ok), ?_⟩
                show Q (.bl ((p.cells.map PyData.str).any fun z => PyData.eqv z d1)) H1
                rw [any_strs]
                exact q H1 s1
          · have rl : 0 < r.length := List.length_pos_iff.mpr l3
            have xrl : xr.length = r.length := DpAll.length t1
            have e3 : r.isEmpty = false := by cases r with | nil => exact absurd rfl l3 | cons _ _ => rfl
            rw [e3] at q
            refine if_true_of (by rw [decide_eq_false (show ¬ V.int ((x0 :: x1 :: xr).length : Nat) = .int 2 from fun z => by injection z with z; simp at z; omega)]; rfl) ?_
            exact q H (Same.refl _)
      | [], h => exact absurd (by simp) h
      | [_], h => exact absurd (by simp) h
    · have ht' : isTup d = false := by simpa using ht
      rw [ht']
      have e : isDeedD p d = false := by
        cases d with
        | tuple ds => cases ht'
        | _ => rfl
      rw [e] at q
      exact iteT (q H (Same.refl _))
  · refine ⟨_, rfl, v, .ty "tuple", .type "dict", .type "tuple", false, rfl, .ty _, hT, kit_ty (by decide +kernel), _, rfl, ?_⟩
    exact iteT (q H (Same.refl _))
def spLawPair (K : PySem.W.Frag) : Sp := fun vs H Q _ => ∃ (u v : V) (p : PP) (m : Nat) (d : PyData) (k : Nat), vs = [u, v] ∧ Tn K H u p.data ∧ p.Ok m ∧ Dp K H v d ∧ smB k d = true ∧ k ≤ 50 ∧ ∀ H', Same H H' → Q (.bl (isWriteD p d)) H'
def spLawGood (K : PySem.W.Frag) : Sp := fun vs H Q _ => ∃ (u v : V) (p : PP) (m : Nat), vs = [u, v] ∧ Tn K H u p.data ∧ p.Ok m ∧ ((∃ (d : PyData) (k : Nat), Dp K H v d ∧ smB k d = true ∧ k ≤ 50 ∧ ∀ H', Same H H' → Q (.bl (isDeedD p d)) H') ∨ (TyX K H v (.type "dict") ∧ ∀ H', Same H H' → Q (.bl false) H'))
end
end K68
namespace K68
open PySem PySem.Spec PyProof.Rows L2 Td
inductive De
  | rd (c : Str)
  | wr (s w : Str)
  | bt (ps : List (Str × Str))
def wpD (p : Str × Str) : PyData := .tuple [.str p.1, .str p.2]
def De.data : De → PyData
  | .rd c => .tuple [.str "read", .str c]
  | .wr s w => .tuple [.str "write", .str s, .str w]
  | .bt ps => .tuple [.str "batch", .tuple (ps.map wpD)]
def De.Of (p : PP) : De → Prop
  | .rd c => c ∈ p.cells
  | .wr s w => s ∈ p.sources ∧ w ∈ p.words
  | .bt ps => ps ≠ [] ∧ ps.length ≤ 4 ∧ (∀ q ∈ ps, q.1 ∈ p.sources ∧ q.2 ∈ p.words) ∧ (ps.map (·.1)).Nodup
theorem nodup_snoc {L : List Str} {x : Str} (h : L.Nodup) (hx : x ∉ L) : (L ++ [x]).Nodup := by
  rw [List.nodup_append]
  refine ⟨h, by simp, fun a ha b hb => ?_⟩
  rw [List.mem_singleton] at hb
  rintro rfl
  exact hx (hb ▸ ha)
theorem stGo {H H' : Hp} {st sc : Addr} (h : StOk H st sc) (s : Same H H') : StOk H' st sc := by
  obtain ⟨cs, i, d, c, z, h1, h2, r⟩ := h
  exact ⟨cs, i, d, c, z, s _ _ h1, s _ _ h2, r⟩
theorem Keep.of_same {st : Addr} {H H' : Hp} (s : Same H H') : Keep st H H' := fun b o _ e => s b o e
theorem pick_at {L : List Str} {r : Int} (h0 : 0 ≤ r) (h1 : r < (((L.map V.str).length : Nat) : Int)) : ∃ (j : Nat) (z : Str), L[j]? = some z ∧ r = (j : Nat) ∧ atI (L.map V.str) r = some (.str z) := by
  rw [List.length_map] at h1
  obtain ⟨k, rfl⟩ : ∃ k : Nat, r = (k : Nat) := ⟨r.toNat, by omega⟩
  have hj : k < L.length := by omega
  refine ⟨k, L[k], List.getElem?_eq_getElem hj, rfl, atI_nat ?_⟩
  rw [List.getElem?_map, List.getElem?_eq_getElem hj]
  rfl
theorem pair_at0 {K : PySem.W.Frag} {H : Hp} {x : V} {q : Str × List Td.Row} (h : Tn K H x (pairD q)) : ∃ a v, x = .ref a ∧ SqT K H a [.str q.1, v] := by
  obtain ⟨a, xs, rfl, hS, hT⟩ := Tn.tup_inv h
  cases hT with
  | cons c1 t1 => cases c1; cases t1 with | cons c2 t2 => cases t2; exact ⟨a, _, rfl, hS⟩
theorem erase_facts {L : List Str} {k : Nat} {z : Str} (h : L[k]? = some z) (nd : L.Nodup) : (L.eraseIdx k).length + 1 = L.length ∧ (L.eraseIdx k).Nodup ∧ z ∉ L.eraseIdx k ∧ (∀ x ∈ L.eraseIdx k, x ∈ L) ∧ (L.map V.str).eraseIdx k = (L.eraseIdx k).map V.str := by
  have hk : k < L.length := (List.getElem?_eq_some_iff.mp h).1
  have e : L = L.take k ++ z :: L.drop (k + 1) := by
    have := (List.getElem?_eq_some_iff.mp h).2
    rw [← this, ← List.drop_eq_getElem_cons hk, List.take_append_drop]
  have e2 : L.eraseIdx k = L.take k ++ L.drop (k + 1) := List.eraseIdx_eq_take_drop_succ L k
  have nd2 : (z :: (L.take k ++ L.drop (k + 1))).Nodup := by
    rw [e] at nd
    exact List.perm_middle.nodup_iff.mp nd
  rw [← e2] at nd2
  rw [List.nodup_cons] at nd2
  refine ⟨by rw [List.length_eraseIdx_of_lt hk]; omega, nd2.2, nd2.1, fun x hx => List.mem_of_mem_eraseIdx hx, ?_⟩
  rw [e2, List.eraseIdx_eq_take_drop_succ, List.map_append, List.map_take, List.map_drop]
def spDeed (K : PySem.W.Frag) : Sp := fun vs H Q _ => ∃ (st sc : Addr) (v : V) (p : PP) (m : Nat), vs = [.ref st, v] ∧ StOk H st sc ∧ Tn K H v p.data ∧ p.Ok m ∧
  ∀ (u : V) (d : De) H', Keep st H H' → StOk H' st sc → d.Of p → Tn K H' u d.data → Q u H'
section
variable {P : Program} {w : World} {K : PySem.W.Frag} {mg : Str → Option Value} {base : Heap}
theorem ok_law_deed (T : Tops w K mg) (G__law_draw : FnOk P w K mg base CX0 1 T.a__law_draw T.d__law_draw ["_law_state_here", "_law_many_here"] spDraw) :
    FnOk P w K mg base CX0 2 T.a__law_deed T.d__law_deed ["_law_state_here", "_law_parts_here"] (spDeed K) := by
  refine T.F__law_deed.ok sc_law_deed (fun vs H Q E h => ?_) (fun cdv A outer s H vs Q E hr h => ?_)
  · obtain ⟨st, sc, v, p, m, rfl, _⟩ := h; rfl
  obtain ⟨st, sc, v, p, m, rfl, ho, hD, ok, q⟩ := h
  refine ⟨_, (pss_cons (ps_set (i := 2) sc_law_deed.nd rfl (Or.inl rfl) (pe_call G__law_draw (hr.mono (by omega)) rfl T.m__law_draw T.F__law_draw.kp T.b__law_draw .nil pass0 (pa_cons (pv 0) (pa_cons pe_int pa_nil))))
    (pss_cons (ps_set (i := 3) sc_law_deed.nd rfl (Or.inl rfl) (pe_op op_cat (pe_callTy call_list_of rfl T.z_list (by decide +kernel) (pa_cons (pe_ix ix_tup (pv 1) pe_int (fun _ _ => rfl)) pa_nil)) (pe_lc (own := [(("_law_pair" : Str), 8)]) (wi := (iTup K (tOp (rIxT K) (tVar 1) (tC (.int 2))))) (g := gName 8) (tt := tYes) (te := (tOp (rIxT K) (tVar 8) (tC (.int 0)))) rfl sc_law_deed.nd (pi_tup (pe_ix ix_tup (pv 1) pe_int (fun _ _ => rfl))) (blkOk_by (own := [(("_law_pair" : Str), 8)]) (N := N_law_deed) (sc := defScope s_law_deed) (by decide +kernel)) (fun _ _ _ _ _ => (pg_name (i := 8) sc_law_deed.nd rfl (Or.inl rfl))) (fun _ _ _ _ _ => pts_nil) (fun _ _ _ _ _ => (pe_ix (r := (rIxT K)) ix_tup (pv 8) pe_int (fun _ _ => rfl))))))
    (pss_cons (ps_if (pt_cmpR op_eq (pv 2) pe_int (nomark _)) (pss_one (ps_ret (pe_tup (pa_cons pe_str (pa_cons (pe_ix ix_list (pv 3) (pe_call G__law_draw (hr.mono (by omega)) rfl T.m__law_draw T.F__law_draw.kp T.b__law_draw .nil pass0 (pa_cons (pv 0) (pa_cons (pe_callB call_len rfl T.z_len PySem.boot_len (pa_cons (pv 3) pa_nil)) pa_nil))) (fun _ _ => rfl)) pa_nil))))) pss_nil)
    (pss_cons (ps_if (pt_cmpR op_gt (pv 2) pe_int (nomark _)) (pss_cons (ps_set (i := 4) sc_law_deed.nd rfl (Or.inl rfl) (pe_ix ix_tup (pe_ix ix_tup (pv 1) pe_int (fun _ _ => rfl)) (pe_call G__law_draw (hr.mono (by omega)) rfl T.m__law_draw T.F__law_draw.kp T.b__law_draw .nil pass0 (pa_cons (pv 0) (pa_cons (pe_callB call_len rfl T.z_len PySem.boot_len (pa_cons (pe_ix ix_tup (pv 1) pe_int (fun _ _ => rfl)) pa_nil)) pa_nil))) (fun _ _ => rfl)))
    (pss_one (ps_ret (pe_tup (pa_cons pe_str (pa_cons (pv 4) (pa_cons (pe_ix ix_tup (pe_ix ix_tup (pv 1) pe_int (fun _ _ => rfl)) (pe_call G__law_draw (hr.mono (by omega)) rfl T.m__law_draw T.F__law_draw.kp T.b__law_draw .nil pass0 (pa_cons (pv 0) (pa_cons (pe_callB call_len rfl T.z_len PySem.boot_len (pa_cons (pe_ix ix_tup (pv 1) pe_int (fun _ _ => rfl)) pa_nil)) pa_nil))) (fun _ _ => rfl)) pa_nil))))))) pss_nil)
    (pss_cons (ps_set (i := 5) sc_law_deed.nd rfl (Or.inl rfl) (pe_callTy call_list_of rfl T.z_list (by decide +kernel) (pa_cons (pe_ix ix_tup (pv 1) pe_int (fun _ _ => rfl)) pa_nil)))
    (pss_cons (ps_set (i := 6) sc_law_deed.nd rfl (Or.inl rfl) (pe_lst pa_nil))
    (pss_cons (ps_for PassesOwn.never rfl (pi_range1 rfl T.z_range (pa_cons (pe_op op_add pe_int (pe_call G__law_draw (hr.mono (by omega)) rfl T.m__law_draw T.F__law_draw.kp T.b__law_draw .nil pass0 (pa_cons (pv 0) (pa_cons (pe_callB call_len rfl T.z_len PySem.boot_len (pa_cons (pv 5) pa_nil)) pa_nil)))) pa_nil)) (pg_name (i := 7) sc_law_deed.nd rfl (Or.inl rfl)) (pss_cons (ps_set (i := 4) sc_law_deed.nd rfl (Or.inl rfl) (pe_bm PySem.F.plainAttrs_list PySem.F.slot_list_pop PySem.F.type_list_pop mt_popAt (pv 5) (pa_cons (pe_call G__law_draw (hr.mono (by omega)) rfl T.m__law_draw T.F__law_draw.kp T.b__law_draw .nil pass0 (pa_cons (pv 0) (pa_cons (pe_callB call_len rfl T.z_len PySem.boot_len (pa_cons (pv 5) pa_nil)) pa_nil))) pa_nil)))
    (pss_one (ps_expr (pe_bm PySem.F.plainAttrs_list PySem.F.slot_list_append PySem.F.type_list_append mt_append (pv 6) (pa_cons (pe_tup (pa_cons (pv 4) (pa_cons (pe_ix ix_tup (pe_ix ix_tup (pv 1) pe_int (fun _ _ => rfl)) (pe_call G__law_draw (hr.mono (by omega)) rfl T.m__law_draw T.F__law_draw.kp T.b__law_draw .nil pass0 (pa_cons (pv 0) (pa_cons (pe_callB call_len rfl T.z_len PySem.boot_len (pa_cons (pe_ix ix_tup (pv 1) pe_int (fun _ _ => rfl)) pa_nil)) pa_nil))) (fun _ _ => rfl)) pa_nil))) pa_nil))))))
    (pss_one (ps_ret (pe_tup (pa_cons pe_str (pa_cons (pe_callTy (T := "tuple") call_tuple_of rfl T.z_tuple (by decide +kernel) (pa_cons (pv 6) pa_nil)) pa_nil)))))))))))), ?_⟩
  obtain ⟨pa, aw, as, vd, ve, rfl, hP, hW, hS, hd, he⟩ := parts_at hD
  obtain ⟨ad, xd, rfl, hA, hX⟩ := Tn.tup_inv hd
  have w2 := ok.w2; have w4 := ok.w4; have s1' := ok.s1; have s4' := ok.s4; have d6 := ok.d6
  have wl : (p.words.map V.str).length = p.words.length := List.length_map _
  have sl : (p.sources.map V.str).length = p.sources.length := List.length_map _
  have wnm : ∀ z ∈ p.words, z ∈ p.words := fun z hz => hz
  have snm : ∀ z ∈ p.sources, z ∈ p.sources := fun z hz => hz
  refine ⟨_, rfl, st, sc, 6, rfl, by decide, by decide, ho, fun r H1 hr0 hr6 k1 o1 _ => ?_⟩
  have tk1 := TK.of_keep k1 ho.chg
  have hP1 := SqT.tk tk1 hP
  refine ⟨_, rfl, pa, _, 1, _, rfl, rfl, hP1, rfl, as, _, rfl, .inr (SqT.tk tk1 hS), fun l1 hl1 => ?_⟩
  have s1 := Same.new hl1 (.lst (p.sources.map V.str))
  have o1a := o1.new (o := .lst (p.sources.map V.str)) hl1
  have n1 := (o1.ne hl1).1
  have e1 : upd H1 l1 (.lst (p.sources.map V.str)) l1 = some (.lst (p.sources.map V.str)) := upd_same
  dsimp only
  generalize upd H1 l1 (.lst (p.sources.map V.str)) = H2 at s1 o1a e1
  refine ⟨_, rfl, pa, _, 2, _, rfl, rfl, SqT.same s1 hP1, rfl, ad, rfl, ⟨_, SqT.same s1 (SqT.tk tk1 hA)⟩, fun D hD' => lc_tup (K := K) (a := ad) (xs := xd) (fun i H' => Same H2 H' ∧ H' D = some (.lst (((p.derived.map (·.1)).take i).map V.str)))
    ⟨Same.new hD' _, upd_same⟩ (fun i H' _ ⟨s', _⟩ => SqT.same (s1.trans s') (SqT.tk tk1 hA)) ?_ ?_⟩
  · rintro i x H3 hx ⟨s3, h3⟩
    obtain ⟨d0, hd1, hd2⟩ := hX.get hx
    rw [List.getElem?_map] at hd1
    obtain ⟨qq, hqq, rfl⟩ := Option.map_eq_some_iff.mp hd1
    obtain ⟨a, v, rfl, hQ⟩ := pair_at0 hd2
    have il : i < p.derived.length := (List.getElem?_eq_some_iff.mp hqq).1
    refine ⟨rfl, ?_⟩
    refine ⟨_, rfl, a, _, 0, _, rfl, rfl, SqT.same (s1.trans s3) (SqT.tk tk1 hQ), rfl, _, h3, small1000 (by rw [List.length_map, List.length_take]; omega), K68.Same.own s3 hD', ?_⟩
    have : (p.derived.map (·.1))[i]? = some qq.1 := by rw [List.getElem?_map, hqq]; rfl
    rw [List.take_succ, this, List.map_append]
    exact upd_same
  rintro H3 ⟨s3, h3⟩
  have xl : xd.length = p.derived.length := by rw [hX.length, List.length_map]
  rw [List.take_of_length_le (by rw [List.length_map, xl]; omega)] at h3
  have o3 := stGo o1a s3
  refine ⟨l1, D, _, _, rfl, rfl, s3 _ _ e1, h3, Nat.le_of_lt (small1000 (by rw [List.length_map, List.length_map, List.length_map]; omega)), fun cl hcl => ?_⟩
  rw [← List.map_append]
  have o4 := o3.new (o := .lst ((p.sources ++ p.derived.map (·.1)).map V.str)) hcl
  have s4 := Same.new hcl (.lst ((p.sources ++ p.derived.map (·.1)).map V.str))
  have ncl := (o3.ne hcl).1
  have hC : upd H3 cl (.lst ((p.sources ++ p.derived.map (·.1)).map V.str)) cl = some (.lst ((p.sources ++ p.derived.map (·.1)).map V.str)) := upd_same
  have k4 : Keep st H (upd H3 cl (.lst ((p.sources ++ p.derived.map (·.1)).map V.str))) := k1.trans (K68.Keep.of_same (s1.trans (s3.trans s4)))
  generalize upd H3 cl (.lst ((p.sources ++ p.derived.map (·.1)).map V.str)) = H4 at o4 hC k4
  have tk4 := TK.of_keep k4 ho.chg
  have cll : ((p.sources ++ p.derived.map (·.1)).map V.str).length = p.sources.length + p.derived.length := by rw [List.length_map, List.length_append, List.length_map]
  refine ⟨_, rfl, rfl, _, rfl, ?_⟩
  by_cases r0 : r = 0
  · refine if_true_of (decide_eq_true (congrArg V.int r0)) ?_
    refine ⟨_, rfl, _, rfl, _, rfl, .ref cl, _, rfl, .inl ⟨_, SqL.of hC, rfl⟩, st, sc, _, rfl, by omega, by omega, o4, fun r2 H5 h0 h1 k5 o5 _ => ?_⟩
    obtain ⟨j, z, hz, hj, hat⟩ := pick_at h0 h1
    refine ⟨cl, _, _, _, rfl, rfl, SqL.of (k5 _ _ ncl hC), hat, by show 2 ≤ sizeLine; decide, fun t ht => ?_⟩
    have gz : z ∈ p.cells := List.mem_of_getElem? hz
    exact q _ (.rd z) _ ((k4.trans k5).trans (Keep.new ht)) (o5.new ht) gz (Tn.new (.cons (.str "read") (.cons (.str z) .nil)) ht)
  refine if_false_of (decide_eq_false (fun x => r0 (V.int.inj x))) ?_
  refine ⟨_, rfl, _, _, rfl, rfl, _, rfl, ?_⟩
  by_cases r2 : 2 < r
  · refine if_true_of (decide_eq_true r2) ?_
    have hP4 := SqT.tk tk4 hP
    have hS4 := SqT.tk tk4 hS
    have hW4 := SqT.tk tk4 hW
    refine ⟨_, rfl, pa, _, 1, _, rfl, rfl, hP4, rfl, _, rfl, _, rfl, pa, _, 1, _, rfl, rfl, hP4, rfl, .ref as, _, rfl, .inr ⟨_, hS4, rfl⟩, st, sc, _, rfl, by omega, by omega, o4, fun r3 H5 h0 h1 k5 o5 _ => ?_⟩
    obtain ⟨j, z, hz, hj, hat⟩ := pick_at h0 h1
    have tk5 := TK.of_keep k5 o4.chg
    have hP5 := SqT.tk tk5 hP4
    have hW5 := SqT.tk tk5 hW4
    refine ⟨as, _, _, _, rfl, rfl, SqT.tk tk5 hS4, hat, ?_⟩
    refine ⟨_, rfl, _, rfl, pa, _, 0, _, rfl, rfl, hP5, rfl, _, rfl, _, rfl, pa, _, 0, _, rfl, rfl, hP5, rfl, .ref aw, _, rfl, .inr ⟨_, hW5, rfl⟩, st, sc, _, rfl, by omega, by omega, o5, fun r4 H6 h2 h3' k6 o6 _ => ?_⟩
    obtain ⟨j2, z2, hz2, hj2, hat2⟩ := pick_at h2 h3'
    refine ⟨aw, _, _, _, rfl, rfl, SqT.tk (TK.of_keep k6 o5.chg) hW5, hat2, by show 3 ≤ sizeLine; decide, fun t ht => ?_⟩
    exact q _ (.wr z z2) _ (((k4.trans k5).trans k6).trans (Keep.new ht)) (o6.new ht) ⟨snm z (List.mem_of_getElem? hz), wnm z2 (List.mem_of_getElem? hz2)⟩ (Tn.new (.cons (.str "write") (.cons (.str z) (.cons (.str z2) .nil))) ht)
  refine if_false_of (decide_eq_false r2) ?_
  have nnd : p.sources.Nodup := by
    have := ok.nn.nd
    unfold PP.names at this
    exact (List.nodup_append.mp (List.nodup_append.mp this).1).1
  refine ⟨_, rfl, pa, _, 1, _, rfl, rfl, SqT.tk tk4 hP, rfl, as, _, rfl, .inr (SqT.tk tk4 hS), fun l5 hl5 => ?_⟩
  have n5 := o4.ne hl5
  have f5 := k4.free n5.1 hl5
  have o5 := o4.new (o := .lst (p.sources.map V.str)) hl5
  have k5 := k4.trans (Keep.new (st := st) (o := .lst (p.sources.map V.str)) hl5)
  have e5 : upd H4 l5 (.lst (p.sources.map V.str)) l5 = some (.lst (p.sources.map V.str)) := upd_same
  dsimp only
  generalize upd H4 l5 (.lst (p.sources.map V.str)) = H5 at o5 k5 e5
  refine ⟨by show 0 ≤ sizeLine; decide, fun l6 hl6 => ?_⟩
  have n6 := o5.ne hl6
  have f6 := k5.free n6.1 hl6
  have n56 : l5 ≠ l6 := ne_of_none e5 hl6
  have o6 := o5.new (o := .lst []) hl6
  have k6 := k5.trans (Keep.new (st := st) (o := .lst []) hl6)
  have e56 : upd H5 l6 (.lst []) l5 = some (.lst (p.sources.map V.str)) := by rw [upd_ne n56]; exact e5
  have e6 : upd H5 l6 (.lst []) l6 = some (.lst []) := upd_same
  generalize upd H5 l6 (.lst []) = H6 at o6 k6 e56 e6
  refine ⟨_, rfl, _, rfl, .ref l5, _, rfl, .inl ⟨_, SqL.of e56, rfl⟩, st, sc, _, rfl, by omega, by omega, o6, fun r7 H7 h0 h1 k7 o7 _ => ⟨_, _, rfl, rfl, 1 + r7, rfl, by omega, by omega, for_range (lo := 0) (n := (1 + r7).toNat)
    (fun i σ H' => ∃ (v4 v7 : Option V) (rest : List Str) (vs : List V) (ps : List (Str × Str)), σ = [some (.ref st), some (.ref pa), some (.int r), some (.ref cl), v4, some (.ref l5), some (.ref l6), v7, none] ∧ Keep st H H' ∧ StOk H' st sc ∧
      H' l5 = some (.lst (rest.map V.str)) ∧ H' l6 = some (.lst vs) ∧ TnAll K H' vs (ps.map wpD) ∧ ps.length = i ∧ rest.length + i = p.sources.length ∧ (∀ z ∈ rest, z ∈ p.sources) ∧ rest.Nodup ∧
      (∀ q ∈ ps, q.1 ∈ p.sources ∧ q.2 ∈ p.words ∧ q.1 ∉ rest) ∧ (ps.map (·.1)).Nodup)
    ⟨none, none, p.sources, [], [], rfl, k6.trans k7, o7, k7 _ _ n5.1 e56, k7 _ _ n6.1 e6, .nil, rfl, rfl, fun z hz => hz, nnd, by simp, List.nodup_nil⟩ ?_ ?_⟩⟩
  · rintro i σ H8 hi ⟨v4, v7, rest, vs, ps, rfl, k8, o8, e5', e6', hT, hpl, hrl, hrs, hrn, hpn, hpd⟩
    have rl : ((rest.map V.str).length : Nat) = rest.length := List.length_map _
    refine ⟨_, rfl, .inl ⟨rfl, _, SqL.of e5'⟩, _, rfl, _, rfl, .ref l5, _, rfl, .inl ⟨_, SqL.of e5', rfl⟩, st, sc, _, rfl, by omega, by omega, o8, fun r8 H9 g0 g1 k9 o9 _ => ?_⟩
    obtain ⟨_, z, _, _, hat⟩ := pick_at g0 g1
    obtain ⟨k, hk, hky, _⟩ := atI_get hat
    have hrz : rest[k]? = some z := by
      rw [List.getElem?_map] at hky
      obtain ⟨z', h1', h2'⟩ := Option.map_eq_some_iff.mp hky
      cases h2'
      exact h1'
    obtain ⟨ef1, ef2, ef3, ef4, ef5⟩ := erase_facts hrz hrn
    refine ⟨l5, _, _, k, _, rfl, rfl, k9 _ _ n5.1 e5', by omega, by omega, hk, hky, ?_⟩
    rw [ef5]
    have o10 := o9.other (o := .lst ((rest.eraseIdx k).map V.str)) n5.1 n5.2
    have k10 : Keep st H (upd H9 l5 (.lst ((rest.eraseIdx k).map V.str))) := Keep.own (k8.trans k9) f5
    have tk10 : TK H8 (upd H9 l5 (.lst ((rest.eraseIdx k).map V.str))) := (TK.of_keep k9 o8.chg).trans (TK.upd (by rw [k9 _ _ n5.1 e5']; trivial))
    have e510 : upd H9 l5 (.lst ((rest.eraseIdx k).map V.str)) l5 = some (.lst ((rest.eraseIdx k).map V.str)) := upd_same
    have e610 : upd H9 l5 (.lst ((rest.eraseIdx k).map V.str)) l6 = some (.lst vs) := by rw [upd_ne n56.symm]; exact k9 _ _ n6.1 e6'
    generalize upd H9 l5 (.lst ((rest.eraseIdx k).map V.str)) = H10 at o10 k10 tk10 e510 e610
    have tkH := TK.of_keep k10 ho.chg
    have hP10 := SqT.tk tkH hP
    have hW10 := SqT.tk tkH hW
    refine ⟨_, rfl, .inl ⟨rfl, _, SqL.of e610⟩, _, rfl, _, rfl, pa, _, 0, _, rfl, rfl, hP10, rfl, _, rfl, _, rfl, pa, _, 0, _, rfl, rfl, hP10, rfl, .ref aw, _, rfl, .inr ⟨_, hW10, rfl⟩, st, sc, _, rfl, by omega, by omega, o10, fun r11 H11 m0 m1 k11 o11 _ => ?_⟩
    obtain ⟨_, z2, hz2, _, hat2⟩ := pick_at m0 m1
    have tk11 := TK.of_keep k11 o10.chg
    refine ⟨aw, _, _, _, rfl, rfl, SqT.tk tk11 hW10, hat2, by show 2 ≤ sizeLine; decide, fun t ht => ?_⟩
    have e611 := k11 _ _ n6.1 e610
    have vl : vs.length = i := by rw [hT.length, List.length_map, hpl]
    have e612 : upd H11 t (.tup [.str z, .str z2]) l6 = some (.lst vs) := by rw [upd_ne (ne_of_none e611 ht)]; exact e611
    refine ⟨l6, vs, _, rfl, rfl, e612, small1000 (by omega), ?_⟩
    have s12 := Same.new ht (.tup [.str z, .str z2])
    have tk12 : TK (upd H11 t (.tup [.str z, .str z2])) (upd (upd H11 t (.tup [.str z, .str z2])) l6 (.lst (vs ++ [.ref t]))) := TK.upd (by rw [e612]; trivial)
    have e5' : H11 l5 = some (.lst ((rest.eraseIdx k).map V.str)) := k11 _ _ n5.1 e510
    refine ⟨_, _, rest.eraseIdx k, _, ps ++ [(z, z2)], rfl, Keep.own ((k10.trans k11).trans (K68.Keep.of_same s12)) f6, (o11.new ht).other n6.1 n6.2, by rw [upd_ne n56]; exact s12 _ _ e5', upd_same, ?_, by simp [hpl], by omega, fun x hx => hrs x (ef4 x hx), ef2, ?_, ?_⟩
    · rw [List.map_append]
      exact TnAll.append (TnAll.keep (((tk10.trans tk11).trans (TK.of_same s12)).trans tk12) hT) (TnAll.one (.tup (SqT.tk tk12 (SqT.of upd_same)) (.cons (.str z) (.cons (.str z2) .nil))))
    · intro q hq
      rcases List.mem_append.mp hq with hq | hq
      · obtain ⟨a1, a2, a3⟩ := hpn q hq
        exact ⟨a1, a2, fun x => a3 (ef4 _ x)⟩
      · rw [List.mem_singleton] at hq
        subst hq
        exact ⟨snm z (hrs z (List.mem_of_getElem? hrz)), wnm z2 (List.mem_of_getElem? hz2), ef3⟩
    · rw [List.map_append]
      refine nodup_snoc hpd fun hx => ?_
      obtain ⟨q, hq, hq2⟩ := List.mem_map.mp hx
      exact (hpn q hq).2.2 (hq2 ▸ List.mem_of_getElem? hrz)
  · rintro σ H8 ⟨v4, v7, rest, vs, ps, rfl, k8, o8, e5', e6', hT, hpl, hrl, hrs, hrn, hpn, hpd⟩
    refine ⟨_, rfl, l6, _, rfl, .inl ⟨SqL.of e6', fun n hn => ⟨by show 2 ≤ sizeLine; decide, fun t ht => ?_⟩⟩⟩
    refine q _ (.bt ps) _ ((k8.trans (Keep.new hn)).trans (Keep.new ht)) ((o8.new hn).new ht) ⟨fun e => ?_, by omega, fun q hq => ⟨(hpn q hq).1, (hpn q hq).2.1⟩, hpd⟩ (Tn.new (.cons (.str "batch") (.cons (Tn.new hT hn) .nil)) ht)
    rw [e] at hpl
    simp at hpl
    omega
end
end K68
namespace K68
open PySem PySem.Spec PyProof.Rows L2 Td
def knF (kn : Td.Env) (c : Str) : Str := (getE kn c).getD ""
def rs0 (d : Str) : RS := ⟨[], [], [], [], [], d⟩
def spTrueRun (K : PySem.W.Frag) (C : Addr) : Sp := fun vs H Q _ => ∃ (x dx kd : Addr) (d : Str) (H0 : Hp), vs = [.ref x, .str d, .ref kd] ∧ H x = some (.ins C dx []) ∧ Same H0 H ∧ H0 x = none ∧
  ∀ (A : RA) H', A.ra = x → A.kd = kd → A.d = d → RunAt K C A H0 H' (rs0 d) → Q .non H'
def spWordIn (K : PySem.W.Frag) (C : Addr) : Sp := fun vs H Q _ => ∃ (A : RA) (H0 : Hp) (st : RS) (z : Str), vs = [.ref A.ra, .str z] ∧ RunAt K C A H0 H st ∧ Q (.str (st.word A.d z)) H
def spAct (K : PySem.W.Frag) (C : Addr) (ok : Td.Row → Prop) : Sp := fun vs H Q _ => ∃ (A : RA) (H0 : Hp) (st : RS) (kn : Td.Env) (v : V) (r : Td.Row) (n : Nat), vs = [.ref A.ra, v] ∧ ok r ∧ RunAt K C A H0 H st ∧ H0 A.kd = some (.dK (kv kn)) ∧ Dp K H0 v (rowD r) ∧ st.Few n ∧ n ≤ 500 ∧
  (∀ pk c s, r = .rd pk c s → (getE kn c).isSome = true) ∧ ∀ H', RunAt K C A H0 H' (runR (knF kn) A.d r st).1 → Q .non H'
def isRead (r : Td.Row) : Prop := ∃ c s, r = .rd false c s
def isPeek (r : Td.Row) : Prop := ∃ c s, r = .rd true c s
def isPut (r : Td.Row) : Prop := ∃ c s, r = .put c s
def isWrite (r : Td.Row) : Prop := ∃ c s, r = .wr c s
def isSay (r : Td.Row) : Prop := ∃ s, r = .say s
theorem fld_new {H0 H : Hp} {x p : Addr} {o u u' : HO} (hs : Same H0 H) (h0 : H0 x = none) (hx : H x = some u) (hp : H p = none) :
    ∃ Hb, upd (upd H p o) x u' = Hb ∧ Same H0 Hb ∧ H0 p = none ∧ Hb x = some u' ∧ Hb p = some o ∧ ∀ b t, b ≠ x → H b = some t → Hb b = some t := by
  have hne : p ≠ x := fun e => by rw [e, hx] at hp; cases hp
  refine ⟨_, rfl, own_same (hs.trans (Same.new hp o)) h0, ?_, upd_same, by rw [upd_ne hne]; exact upd_same, fun b t hb e => by rw [upd_ne hb]; exact Same.new hp _ _ _ e⟩
  cases e : H0 p with
  | none => rfl
  | some t => rw [hs _ _ e] at hp; cases hp
theorem get_known {H : Hp} {a : Addr} {kn : Td.Env} {c : Str} (e : H a = some (.dK (kv kn))) (hc : (getE kn c).isSome = true) : DGet H a (.str c) (some (.str (knF kn c))) := by
  have h := DGet.k (k := .inr c) e
  rw [Td.kv_get] at h
  obtain ⟨u, hu⟩ := Option.isSome_iff_exists.mp hc
  have : (getE kn c).map V.str = some (.str (knF kn c)) := by unfold knF; rw [hu]; rfl
  rw [this] at h
  exact h
theorem put_kv {H : Hp} {a : Addr} {L : Td.Env} {k v : Str} (e : H a = some (.dK (kv L))) (hl : L.length < sizeLine) : DPut H a (.str k) (.str v) (upd H a (.dK (kv (putE L k v)))) := by
  have h := DPut.k (k := .inr k) (v := .str v) e (by rw [kv_len]; exact hl)
  rw [kv_put] at h
  exact h
section
variable {P : Program} {w : World} {K : PySem.W.Frag} {mg : Str → Option Value} {base : Heap}
structure RecAt (C : Addr) (H0 H : Hp) (x dx p2 p3 p4 p5 : Addr) : Prop where
  same : Same H0 H
  f2 : H0 p2 = none
  f3 : H0 p3 = none
  f4 : H0 p4 = none
  f5 : H0 p5 = none
  n3 : p2 ≠ p3
  n4 : p4 ≠ p5
  ob : H x = some (.ins C dx (putF "given" .non (putF "written" (.ref p5) (putF "said" (.ref p4) (putF "peeked" (.ref p3) (putF "noted" (.ref p2) []))))))
  e2 : H p2 = some (.dK [])
  e3 : H p3 = some (.dK [])
  e4 : H p4 = some (.lst [])
  e5 : H p5 = some (.lst [])
def spRecord (K : PySem.W.Frag) (C : Addr) : Sp := fun vs H Q _ => ∃ (x dx : Addr) (H0 : Hp), vs = [.ref x] ∧ H x = some (.ins C dx []) ∧ Same H0 H ∧ H0 x = none ∧
  ∀ (p2 p3 p4 p5 : Addr) H', RecAt C H0 H' x dx p2 p3 p4 p5 → Q .non H'
theorem ok_record_init (T : Tops w K mg) : FnOk P w K mg base CX0 1 T.a_Record_init T.d_Record_init ["self"] (spRecord K T.c_TrueRun) := by
  refine T.F_Record_init.ok sc_Record_init (fun vs H Q E h => ?_) (fun cdv A outer s H vs Q E hr h => ?_)
  · obtain ⟨x, dx, H0, rfl, _⟩ := h
    rfl
  obtain ⟨x, dx, H0, rfl, hx, hs, h0, q⟩ := h
  refine ⟨_, (pss_cons (ps_fld (pv 0) pe_dnewK rfl)
    (pss_cons (ps_fld (pv 0) pe_dnewK rfl)
    (pss_cons (ps_fld (pv 0) (pe_lst pa_nil) rfl)
    (pss_cons (ps_fld (pv 0) (pe_lst pa_nil) rfl)
    (pss_one (ps_fld (pv 0) pe_non rfl)))))), ?_⟩
  refine fun p2 hp2 => ⟨_, rfl, x, T.c_TrueRun, dx, _, rfl, Same.new hp2 _ _ _ hx, T.l_TrueRun, T.n_TrueRun_noted, by show 0 < 1000; decide, ?_⟩
  obtain ⟨H4, e4, s4, f2, x4, y2, k4⟩ := fld_new (o := .dK []) (u' := .ins T.c_TrueRun dx (putF "noted" (.ref p2) [])) hs h0 hx hp2
  show tSeq _ _ _ _ (upd (upd H p2 (.dK [])) x (.ins T.c_TrueRun dx (putF "noted" (.ref p2) [])))
  rw [e4]
  refine fun p3 hp3 => ⟨_, rfl, x, T.c_TrueRun, dx, _, rfl, Same.new hp3 _ _ _ x4, T.l_TrueRun, T.n_TrueRun_peeked, Nat.lt_of_le_of_lt (m := 1) (Nat.le_of_eq (by kernel_rfl)) (by decide), ?_⟩
  obtain ⟨H5, e5, s5, f3, x5, y3, k5⟩ := fld_new (o := .dK []) (u' := .ins T.c_TrueRun dx (putF "peeked" (.ref p3) (putF "noted" (.ref p2) []))) s4 h0 x4 hp3
  show tSeq _ _ _ _ (upd (upd H4 p3 (.dK [])) x (.ins T.c_TrueRun dx (putF "peeked" (.ref p3) (putF "noted" (.ref p2) []))))
  rw [e5]
  have nx2 : p2 ≠ x := fun e => by rw [e, x4] at y2; cases y2
  have y25 := k5 _ _ nx2 y2
  have n23 : p2 ≠ p3 := ne_of_none y2 hp3
  have nx3 : p3 ≠ x := fun e => by rw [e, x5] at y3; cases y3
  refine ⟨by show 0 ≤ sizeLine; decide, fun p4 hp4 => ⟨_, rfl, x, T.c_TrueRun, dx, _, rfl, Same.new hp4 _ _ _ x5, T.l_TrueRun, T.n_TrueRun_said, Nat.lt_of_le_of_lt (m := 2) (Nat.le_of_eq (by kernel_rfl)) (by decide), ?_⟩⟩
  obtain ⟨H6, e6, s6, f4, x6, y4, k6⟩ := fld_new (o := .lst []) (u' := .ins T.c_TrueRun dx (putF "said" (.ref p4) (putF "peeked" (.ref p3) (putF "noted" (.ref p2) [])))) s5 h0 x5 hp4
  show tSeq _ _ _ _ (upd (upd H5 p4 (.lst [])) x (.ins T.c_TrueRun dx (putF "said" (.ref p4) (putF "peeked" (.ref p3) (putF "noted" (.ref p2) [])))))
  rw [e6]
  have nx4 : p4 ≠ x := fun e => by rw [e, x6] at y4; cases y4
  refine ⟨by show 0 ≤ sizeLine; decide, fun p5 hp5 => ⟨_, rfl, x, T.c_TrueRun, dx, _, rfl, Same.new hp5 _ _ _ x6, T.l_TrueRun, T.n_TrueRun_written, Nat.lt_of_le_of_lt (m := 3) (Nat.le_of_eq (by kernel_rfl)) (by decide), ?_⟩⟩
  obtain ⟨H7, e7, s7, f5, x7, y5, k7⟩ := fld_new (o := .lst []) (u' := .ins T.c_TrueRun dx (putF "written" (.ref p5) (putF "said" (.ref p4) (putF "peeked" (.ref p3) (putF "noted" (.ref p2) []))))) s6 h0 x6 hp5
  dsimp only
  rw [e7]
  have n45 : p4 ≠ p5 := ne_of_none y4 hp5
  have nx5 : p5 ≠ x := fun e => by rw [e, x7] at y5; cases y5
  refine ⟨_, rfl, x, T.c_TrueRun, dx, _, rfl, x7, T.l_TrueRun, T.n_TrueRun_given, Nat.lt_of_le_of_lt (m := 4) (Nat.le_of_eq (by kernel_rfl)) (by decide), ?_⟩
  refine q p2 p3 p4 p5 _ ⟨own_same s7 h0, f2, f3, f4, f5, n23, n45, upd_same, ?_, ?_, ?_, ?_⟩
  · rw [upd_ne nx2]; exact k7 _ _ nx2 (k6 _ _ nx2 y25)
  · rw [upd_ne nx3]; exact k7 _ _ nx3 (k6 _ _ nx3 y3)
  · rw [upd_ne nx4]; exact k7 _ _ nx4 y4
  · rw [upd_ne nx5]; exact y5
theorem ok_true_run_init (T : Tops w K mg) : FnOk PySem.Challenge.pw_toldonward_k68_whole_plain_machine w K mg base CX0 2 T.a_TrueRun_init T.d_TrueRun_init ["self", "default", "known"] (spTrueRun K T.c_TrueRun) := by
  refine fn_super (N := N_TrueRun_init) T.F_TrueRun_init rfl sc_TrueRun_init rfl rfl (by decide +kernel) (by decide +kernel) (by decide +kernel) (ok_record_init T) T.b_Record_init (fun vs H Q E h => ?_) (fun A outer s H vs Q E cc cda hr h => ?_)
  · obtain ⟨x, dx, kd, d, H0, rfl, _⟩ := h
    rfl
  obtain ⟨x, dx, kd, d, H0, rfl, hx, hs, h0, q⟩ := h
  refine ⟨x, dx, [], _, rfl, hx, x, dx, H0, rfl, hx, hs, h0, fun p2 p3 p4 p5 H1 R => ⟨rfl, ?_⟩⟩
  refine ⟨_, (pss_cons (ps_fld (pv 0) (pv 1) rfl)
    (pss_cons (ps_fld (pv 0) (pv 2) rfl)
    (pss_cons (ps_fld (pv 0) pe_dnewK rfl)
    (pss_one (ps_fld (pv 0) (pv 1) rfl))))), ?_⟩
  obtain ⟨s1, f2, f3, f4, f5, n3, n4, ob, y2, y3, y4, y5⟩ := R
  have nx2 : p2 ≠ x := fun e => by rw [e, ob] at y2; cases y2
  have nx3 : p3 ≠ x := fun e => by rw [e, ob] at y3; cases y3
  have nx4 : p4 ≠ x := fun e => by rw [e, ob] at y4; cases y4
  have nx5 : p5 ≠ x := fun e => by rw [e, ob] at y5; cases y5
  refine ⟨_, rfl, _, rfl, x, T.c_TrueRun, dx, _, rfl, ob, T.l_TrueRun, T.n_TrueRun_default, Nat.lt_of_le_of_lt (m := 5) (Nat.le_of_eq (by kernel_rfl)) (by decide), ?_⟩
  refine ⟨_, rfl, _, rfl, x, T.c_TrueRun, dx, _, rfl, upd_same, T.l_TrueRun, T.n_TrueRun_known, Nat.lt_of_le_of_lt (m := 6) (Nat.le_of_eq (by kernel_rfl)) (by decide), ?_⟩
  rw [upd_upd]
  obtain ⟨H2, e2⟩ : ∃ H2, H2 = upd H1 x (.ins T.c_TrueRun dx (putF "known" (.ref kd) (putF "default" (.str d) (putF "given" .non (putF "written" (.ref p5) (putF "said" (.ref p4) (putF "peeked" (.ref p3) (putF "noted" (.ref p2) [])))))))) := ⟨_, rfl⟩
  have s2 : Same H0 H2 := by rw [e2]; exact own_same s1 h0
  have x2 : H2 x = some (.ins T.c_TrueRun dx (putF "known" (.ref kd) (putF "default" (.str d) (putF "given" .non (putF "written" (.ref p5) (putF "said" (.ref p4) (putF "peeked" (.ref p3) (putF "noted" (.ref p2) [])))))))) := by rw [e2]; exact upd_same
  have z2 : H2 p2 = some (.dK []) := by rw [e2, upd_ne nx2]; exact y2
  have z3 : H2 p3 = some (.dK []) := by rw [e2, upd_ne nx3]; exact y3
  have z4 : H2 p4 = some (.lst []) := by rw [e2, upd_ne nx4]; exact y4
  have z5 : H2 p5 = some (.lst []) := by rw [e2, upd_ne nx5]; exact y5
  show tSeq _ _ _ _ (upd H1 x (.ins T.c_TrueRun dx (putF "known" (.ref kd) (putF "default" (.str d) (putF "given" .non (putF "written" (.ref p5) (putF "said" (.ref p4) (putF "peeked" (.ref p3) (putF "noted" (.ref p2) [])))))))))
  rw [← e2]
  refine fun p1 hp1 => ⟨_, rfl, x, T.c_TrueRun, dx, _, rfl, Same.new hp1 _ _ _ x2, T.l_TrueRun, T.n_TrueRun_slots, Nat.lt_of_le_of_lt (m := 7) (Nat.le_of_eq (by kernel_rfl)) (by decide), ?_⟩
  obtain ⟨H3, e3, s3, f1, x3, y1, k3⟩ := fld_new (o := .dK []) (u' := .ins T.c_TrueRun dx (putF "slots" (.ref p1) (putF "known" (.ref kd) (putF "default" (.str d) (putF "given" .non (putF "written" (.ref p5) (putF "said" (.ref p4) (putF "peeked" (.ref p3) (putF "noted" (.ref p2) []))))))))) s2 h0 x2 hp1
  dsimp only
  rw [e3]
  have n12 : p1 ≠ p2 := (ne_of_none z2 hp1).symm
  have n13 : p1 ≠ p3 := (ne_of_none z3 hp1).symm
  have nx1 : p1 ≠ x := fun e => by rw [e, x3] at y1; cases y1
  refine ⟨_, rfl, _, rfl, x, T.c_TrueRun, dx, _, rfl, x3, T.l_TrueRun, T.n_TrueRun_given, Nat.lt_of_le_of_lt (m := 8) (Nat.le_of_eq (by kernel_rfl)) (by decide), ?_⟩
  refine q ⟨x, kd, p1, p2, p3, p4, p5, d⟩ _ rfl rfl rfl ⟨own_same s3 h0, h0, f1, f2, f3, f4, f5, n12, n13, n3, n4, ⟨dx, ?_⟩, ?_, ?_, ?_, ?_, [], ?_, .nil⟩
  · rw [upd_same]
    congr 1
  · rw [upd_ne nx1]; exact y1
  · rw [upd_ne nx2]; exact k3 _ _ nx2 z2
  · rw [upd_ne nx3]; exact k3 _ _ nx3 z3
  · rw [upd_ne nx4]; exact k3 _ _ nx4 z4
  · rw [upd_ne nx5]; exact k3 _ _ nx5 z5
theorem ok_word_in (T : Tops w K mg) : FnOk P w K mg base CX0 1 T.a_TrueRun_word_in T.d_TrueRun_word_in ["self", "slot"] (spWordIn K T.c_TrueRun) := by
  refine T.F_TrueRun_word_in.ok sc_TrueRun_word_in (fun vs H Q E h => ?_) (fun cdv A outer s H vs Q E hr h => ?_)
  · obtain ⟨A, H0, st, z, rfl, _⟩ := h
    rfl
  obtain ⟨A, H0, st, z, rfl, hR, q⟩ := h
  obtain ⟨dx, e⟩ := hR.ob
  refine ⟨_, (pss_one (ps_ret (pe_dget2 (hu_of hr) (pe_fld (pv 0) rfl) (pv 1) (pe_fld (pv 0) rfl) ⟨rfl, rfl, rfl, rfl⟩))), ?_⟩
  refine ⟨_, rfl, A.ra, _, dx, _, _, rfl, e, T.l_TrueRun, T.n_TrueRun_slots, fl_slots .., A.ps, rfl, .inl ⟨_, .inl hR.sl⟩, _, rfl, _, rfl, A.ra, _, dx, _, _, rfl, e, T.l_TrueRun, T.n_TrueRun_default, fl_default .., _, DGet.k (k := .inr z) hR.sl, ?_⟩
  have e2 : (valV (kv st.slots) (.inr z : Key)).getD (.str A.d) = .str (st.word A.d z) := by
    rw [Td.kv_get]
    unfold RS.word
    cases getE st.slots z <;> rfl
  show Q ((valV (kv st.slots) (.inr z : Key)).getD (.str A.d)) H
  rw [e2]
  exact q
end
end K68
namespace K68
open PySem PySem.Spec PyProof.Rows L2 Td
theorem upd_self {H : Hp} {a : Addr} {o : HO} (e : H a = some o) : upd H a o = H := by
  funext b
  by_cases h : b = a
  · rw [h, upd_same, e]
  · rw [upd_ne h]
theorem sd_kv {L : Td.Env} {k v : Str} {Q : V → Hp → Prop} {H : Hp} {a : Addr} (e : H a = some (.dK (kv L))) (h : ∀ (z : V), Q z (upd H a (.dK (kv (sdE L k v))))) :
    (∀ (z : V), valV (kv L) (.inr k : Key) = some z → Q z H) ∧ (valV (kv L) (.inr k : Key) = none → Q (.str v) (upd H a (.dK (putK (kv L) (.inr k) (.str v))))) := by
  refine ⟨fun z hz => ?_, fun hz => ?_⟩
  · have e1 : (getE L k).isSome = true := by
      rw [Td.kv_get] at hz
      cases hg : getE L k with
      | none => rw [hg] at hz; cases hz
      | some _ => rfl
    have e2 : sdE L k v = L := by unfold sdE; rw [if_pos e1]
    have h' := h z
    rw [e2, upd_self e] at h'
    exact h'
  · have e1 : ¬ (getE L k).isSome = true := by
      rw [Td.kv_get] at hz
      cases hg : getE L k with
      | none => simp
      | some _ => rw [hg] at hz; cases hz
    have e2 : sdE L k v = putE L k v := by unfold sdE; rw [if_neg e1]
    rw [kv_put, ← e2]
    exact h _
section
variable {P : Program} {w : World} {K : PySem.W.Frag} {mg : Str → Option Value} {base : Heap}
theorem ok_do_read (T : Tops w K mg) : FnOk P w K mg base CX0 2 T.a_do_read T.d_do_read ["run", "row"] (spAct K T.c_TrueRun isRead) := by
  refine T.F_do_read.ok sc_do_read (fun vs H Q E h => ?_) (fun cdv A outer s H vs Q E hr h => ?_)
  · obtain ⟨A, H0, st, kn, v, r, n, rfl, _⟩ := h
    rfl
  obtain ⟨A, H0, st, kn, v, r, n, rfl, ⟨c, s, rfl⟩, hR, hK, hD, few, hn, hc, q⟩ := h
  obtain ⟨a, rfl, hS0⟩ := rd_at hD
  have hS := SqT.same hR.same hS0
  obtain ⟨dx, e⟩ := hR.ob
  have f1 := few.sl
  have f2 := few.no
  refine ⟨_, (pss_cons (ps_set (i := 2) sc_do_read.nd rfl (Or.inl rfl) (pe_dget (hu_of hr) (pe_fld (pv 0) rfl) (pe_ix ix_tup (pv 1) pe_int (fun _ _ => rfl)) (fun _ _ => rfl)))
    (pss_cons (ps_dput (hu_of hr) (pe_fld (pv 0) rfl) (pe_ix ix_tup (pv 1) pe_int (fun _ _ => rfl)) (pv 2) rfl)
    (pss_one (ps_expr (pe_dsetd (pe_fld (pv 0) rfl) (pe_ix ix_tup (pv 1) pe_int (fun _ _ => rfl)) (pv 2) ⟨rfl, rfl, rfl, rfl⟩))))), ?_⟩
  refine ⟨_, rfl, A.ra, _, dx, _, _, rfl, e, T.l_TrueRun, T.n_TrueRun_known, fl_known .., _, rfl, a, _, 1, _, rfl, rfl, hS, rfl, A.kd, _, rfl, get_known (hR.same _ _ hK) (hc _ _ _ rfl), ?_⟩
  refine ⟨_, rfl, _, rfl, A.ra, _, dx, _, _, rfl, e, T.l_TrueRun, T.n_TrueRun_slots, fl_slots .., _, rfl, a, _, 2, _, rfl, rfl, hS, rfl, A.ps, _, rfl, put_kv hR.sl (small1000 (by omega)), ?_⟩
  have hR2 := hR.slots (putE st.slots s (knF kn c))
  have hS2 := SqT.same hR2.same hS0
  obtain ⟨dx2, e2⟩ := hR2.ob
  dsimp only
  generalize upd H A.ps (.dK (kv (putE st.slots s (knF kn c)))) = H2 at hR2 hS2 e2
  refine ⟨_, rfl, A.ra, _, dx2, _, _, rfl, e2, T.l_TrueRun, T.n_TrueRun_noted, fl_noted .., A.pn, rfl, .inl ⟨_, .inl hR2.no⟩, _, rfl, a, _, 1, _, rfl, rfl, hS2, rfl, _, rfl, _, .inr c, hR2.no, rfl, by rw [kv_len]; exact small1000 (by show st.noted.length ≤ 1000; omega), ?_⟩
  refine sd_kv (Q := fun _ H' => Q .non H') hR2.no (fun z => q _ ?_)
  have hR3 := hR2.noted (sdE st.noted c (knF kn c))
  simp only [runR, Bool.false_eq_true, if_false]
  exact hR3
theorem ok_do_peek (T : Tops w K mg) : FnOk P w K mg base CX0 2 T.a_do_peek T.d_do_peek ["run", "row"] (spAct K T.c_TrueRun isPeek) := by
  refine T.F_do_peek.ok sc_do_peek (fun vs H Q E h => ?_) (fun cdv A outer s H vs Q E hr h => ?_)
  · obtain ⟨A, H0, st, kn, v, r, n, rfl, _⟩ := h
    rfl
  obtain ⟨A, H0, st, kn, v, r, n, rfl, ⟨c, s, rfl⟩, hR, hK, hD, few, hn, hc, q⟩ := h
  obtain ⟨a, rfl, hS0⟩ := rd_at hD
  have hS := SqT.same hR.same hS0
  obtain ⟨dx, e⟩ := hR.ob
  have f1 := few.sl
  have f2 := few.pe
  refine ⟨_, (pss_cons (ps_set (i := 2) sc_do_peek.nd rfl (Or.inl rfl) (pe_dget (hu_of hr) (pe_fld (pv 0) rfl) (pe_ix ix_tup (pv 1) pe_int (fun _ _ => rfl)) (fun _ _ => rfl)))
    (pss_cons (ps_dput (hu_of hr) (pe_fld (pv 0) rfl) (pe_ix ix_tup (pv 1) pe_int (fun _ _ => rfl)) (pv 2) rfl)
    (pss_one (ps_expr (pe_dsetd (pe_fld (pv 0) rfl) (pe_ix ix_tup (pv 1) pe_int (fun _ _ => rfl)) (pv 2) ⟨rfl, rfl, rfl, rfl⟩))))), ?_⟩
  refine ⟨_, rfl, A.ra, _, dx, _, _, rfl, e, T.l_TrueRun, T.n_TrueRun_known, fl_known .., _, rfl, a, _, 1, _, rfl, rfl, hS, rfl, A.kd, _, rfl, get_known (hR.same _ _ hK) (hc _ _ _ rfl), ?_⟩
  refine ⟨_, rfl, _, rfl, A.ra, _, dx, _, _, rfl, e, T.l_TrueRun, T.n_TrueRun_slots, fl_slots .., _, rfl, a, _, 2, _, rfl, rfl, hS, rfl, A.ps, _, rfl, put_kv hR.sl (small1000 (by omega)), ?_⟩
  have hR2 := hR.slots (putE st.slots s (knF kn c))
  have hS2 := SqT.same hR2.same hS0
  obtain ⟨dx2, e2⟩ := hR2.ob
  dsimp only
  generalize upd H A.ps (.dK (kv (putE st.slots s (knF kn c)))) = H2 at hR2 hS2 e2
  refine ⟨_, rfl, A.ra, _, dx2, _, _, rfl, e2, T.l_TrueRun, T.n_TrueRun_peeked, fl_peeked .., A.pp, rfl, .inl ⟨_, .inl hR2.pe⟩, _, rfl, a, _, 1, _, rfl, rfl, hS2, rfl, _, rfl, _, .inr c, hR2.pe, rfl, by rw [kv_len]; exact small1000 (by show st.peeked.length ≤ 1000; omega), ?_⟩
  refine sd_kv (Q := fun _ H' => Q .non H') hR2.pe (fun z => q _ ?_)
  have hR3 := hR2.peeked (sdE st.peeked c (knF kn c))
  simp only [runR, if_true]
  exact hR3
theorem ok_do_put (T : Tops w K mg) : FnOk P w K mg base CX0 2 T.a_do_put T.d_do_put ["run", "row"] (spAct K T.c_TrueRun isPut) := by
  refine T.F_do_put.ok sc_do_put (fun vs H Q E h => ?_) (fun cdv A outer s H vs Q E hr h => ?_)
  · obtain ⟨A, H0, st, kn, v, r, n, rfl, _⟩ := h
    rfl
  obtain ⟨A, H0, st, kn, v, r, n, rfl, ⟨c, s, rfl⟩, hR, hK, hD, few, hn, hc, q⟩ := h
  obtain ⟨a, rfl, hS0⟩ := put_at hD
  have hS := SqT.same hR.same hS0
  obtain ⟨dx, e⟩ := hR.ob
  have f1 := few.sl
  refine ⟨_, (pss_one (ps_dput (hu_of hr) (pe_fld (pv 0) rfl) (pe_ix ix_tup (pv 1) pe_int (fun _ _ => rfl)) (pe_ix ix_tup (pv 1) pe_int (fun _ _ => rfl)) rfl)), ?_⟩
  refine ⟨_, rfl, a, _, 2, _, rfl, rfl, hS, rfl, _, rfl, A.ra, _, dx, _, _, rfl, e, T.l_TrueRun, T.n_TrueRun_slots, fl_slots .., _, rfl, a, _, 1, _, rfl, rfl, hS, rfl, A.ps, _, rfl, put_kv hR.sl (small1000 (by omega)), ?_⟩
  refine q _ ?_
  simp only [runR]
  exact hR.slots _
theorem ok_do_write (T : Tops w K mg) (G_TrueRun_word_in : FnOk P w K mg base CX0 1 T.a_TrueRun_word_in T.d_TrueRun_word_in ["self", "slot"] (spWordIn K T.c_TrueRun)) :
    FnOk P w K mg base CX0 2 T.a_do_write T.d_do_write ["run", "row"] (spAct K T.c_TrueRun isWrite) := by
  refine T.F_do_write.ok sc_do_write (fun vs H Q E h => ?_) (fun cdv A outer s H vs Q E hr h => ?_)
  · obtain ⟨A, H0, st, kn, v, r, n, rfl, _⟩ := h
    rfl
  obtain ⟨A, H0, st, kn, v, r, n, rfl, ⟨c, s, rfl⟩, hR, hK, hD, few, hn, hc, q⟩ := h
  obtain ⟨a, rfl, hS0⟩ := wr_at hD
  have hS := SqT.same hR.same hS0
  obtain ⟨dx, e⟩ := hR.ob
  obtain ⟨xs, x1, x2⟩ := hR.wr
  have f1 := few.wr
  have xl := x2.length
  rw [List.length_map] at xl
  refine ⟨_, (pss_one (ps_expr (pe_bm PySem.F.plainAttrs_list PySem.F.slot_list_append PySem.F.type_list_append mt_append (pe_fld (pv 0) rfl) (pa_cons (pe_tup (pa_cons (pe_ix ix_tup (pv 1) pe_int (fun _ _ => rfl)) (pa_cons (pe_meth (pv 0) T.l_TrueRun T.t_TrueRun_word_in G_TrueRun_word_in (hr.mono (by omega)) T.b_TrueRun_word_in .nil pass0 (pa_cons (pe_ix ix_tup (pv 1) pe_int (fun _ _ => rfl)) pa_nil)) pa_nil))) pa_nil)))), ?_⟩
  refine ⟨_, rfl, A.ra, _, dx, _, _, rfl, e, T.l_TrueRun, T.n_TrueRun_written, fl_written .., .inl ⟨rfl, _, SqL.of x1⟩, ?_⟩
  refine ⟨_, rfl, a, _, 1, _, rfl, rfl, hS, rfl, _, rfl, A.ra, dx, _, rfl, e, fl_none .., _, rfl, a, _, 2, _, rfl, rfl, hS, rfl, A, H0, st, s, rfl, hR, ?_⟩
  refine ⟨by show 2 ≤ sizeLine; decide, fun p hp => ?_⟩
  have s1 : Same H (upd H p (.tup [.str c, .str (st.word A.d s)])) := Same.new hp _
  refine ⟨A.pw, xs, _, rfl, rfl, s1 _ _ x1, small1000 (by omega), ?_⟩
  refine q _ ?_
  simp only [runR]
  refine (hR.go s1).write (s1 _ _ x1) ?_
  rw [List.map_append]
  exact TnAll.append (TnAll.keep (TK.of_same s1) x2) (TnAll.one (.tup (SqT.of upd_same) (.cons (.str _) (.cons (.str _) .nil))))
theorem ok_do_say (T : Tops w K mg) (G_TrueRun_word_in : FnOk P w K mg base CX0 1 T.a_TrueRun_word_in T.d_TrueRun_word_in ["self", "slot"] (spWordIn K T.c_TrueRun)) :
    FnOk P w K mg base CX0 2 T.a_do_say T.d_do_say ["run", "row"] (spAct K T.c_TrueRun isSay) := by
  refine T.F_do_say.ok sc_do_say (fun vs H Q E h => ?_) (fun cdv A outer s H vs Q E hr h => ?_)
  · obtain ⟨A, H0, st, kn, v, r, n, rfl, _⟩ := h
    rfl
  obtain ⟨A, H0, st, kn, v, r, n, rfl, ⟨s, rfl⟩, hR, hK, hD, few, hn, hc, q⟩ := h
  obtain ⟨a, rfl, hS0⟩ := say_at hD
  have hS := SqT.same hR.same hS0
  obtain ⟨dx, e⟩ := hR.ob
  have f1 := few.sa
  refine ⟨_, (pss_one (ps_expr (pe_bm PySem.F.plainAttrs_list PySem.F.slot_list_append PySem.F.type_list_append mt_append (pe_fld (pv 0) rfl) (pa_cons (pe_meth (pv 0) T.l_TrueRun T.t_TrueRun_word_in G_TrueRun_word_in (hr.mono (by omega)) T.b_TrueRun_word_in .nil pass0 (pa_cons (pe_ix ix_tup (pv 1) pe_int (fun _ _ => rfl)) pa_nil)) pa_nil)))), ?_⟩
  refine ⟨_, rfl, A.ra, _, dx, _, _, rfl, e, T.l_TrueRun, T.n_TrueRun_said, fl_said .., .inl ⟨rfl, _, SqL.of hR.sa⟩, ?_⟩
  refine ⟨_, rfl, A.ra, dx, _, rfl, e, fl_none .., _, rfl, a, _, 1, _, rfl, rfl, hS, rfl, A, H0, st, s, rfl, hR, ?_⟩
  refine ⟨A.pd, _, _, rfl, rfl, hR.sa, small1000 (by rw [List.length_map]; omega), ?_⟩
  refine q _ ?_
  simp only [runR]
  have h := hR.say (st.said ++ [st.word A.d s])
  rw [List.map_append] at h
  exact h
end
end K68
namespace K68
open PySem PySem.Spec PyProof.Rows L2 Td
def fitA (K : PySem.W.Frag) {w : World} {mg : Str → Option Value} (T : Tops w K mg) : Addr → Sp → Prop := fun f sp =>
  (f = T.a_do_read ∧ sp = spAct K T.c_TrueRun isRead) ∨ (f = T.a_do_peek ∧ sp = spAct K T.c_TrueRun isPeek) ∨ (f = T.a_do_put ∧ sp = spAct K T.c_TrueRun isPut) ∨ (f = T.a_do_write ∧ sp = spAct K T.c_TrueRun isWrite) ∨ (f = T.a_do_say ∧ sp = spAct K T.c_TrueRun isSay)
def spDoRows (K : PySem.W.Frag) (C : Addr) (k : Nat) : Sp := fun vs H Q _ => ∃ (A : RA) (H0 : Hp) (st : RS) (kn : Td.Env) (v : V) (rs : List Td.Row) (n : Nat) (S : Sc) (dep : Nat), vs = [.ref A.ra, v] ∧ RunAt K C A H0 H st ∧ H0 A.kd = some (.dK (kv kn)) ∧
  Dp K H0 v (.tuple (rowsD rs)) ∧ okRs S dep rs ∧ (∀ c ∈ S.readable, (getE kn c).isSome = true) ∧ st.Few n ∧ n + cnts rs ≤ 500 ∧ dep ≤ 4 ∧ 5 ≤ dep + k ∧
  ∀ H', RunAt K C A H0 H' (runRs (knF kn) A.d rs st).1 → Q (.bl (runRs (knF kn) A.d rs st).2) H'
section
variable {P : Program} {w : World} {K : PySem.W.Frag} {mg : Str → Option Value} {base : Heap}
theorem fitA_held (T : Tops w K mg)
    (G1 : FnOk P w K mg base CX0 2 T.a_do_read T.d_do_read ["run", "row"] (spAct K T.c_TrueRun isRead))
    (G2 : FnOk P w K mg base CX0 2 T.a_do_peek T.d_do_peek ["run", "row"] (spAct K T.c_TrueRun isPeek))
    (G3 : FnOk P w K mg base CX0 2 T.a_do_put T.d_do_put ["run", "row"] (spAct K T.c_TrueRun isPut))
    (G4 : FnOk P w K mg base CX0 2 T.a_do_write T.d_do_write ["run", "row"] (spAct K T.c_TrueRun isWrite))
    (G5 : FnOk P w K mg base CX0 2 T.a_do_say T.d_do_say ["run", "row"] (spAct K T.c_TrueRun isSay)) : ∀ f sp, fitA K T f sp → Held P w K mg base 2 f sp := by
  rintro f sp (⟨rfl, rfl⟩ | ⟨rfl, rfl⟩ | ⟨rfl, rfl⟩ | ⟨rfl, rfl⟩ | ⟨rfl, rfl⟩)
  · exact ⟨_, _, G1, T.F_do_read.kp, T.b_do_read⟩
  · exact ⟨_, _, G2, T.F_do_peek.kp, T.b_do_peek⟩
  · exact ⟨_, _, G3, T.F_do_put.kp, T.b_do_put⟩
  · exact ⟨_, _, G4, T.F_do_write.kp, T.b_do_write⟩
  · exact ⟨_, _, G5, T.F_do_say.kp, T.b_do_say⟩
theorem ok_do_rows1 (T : Tops w K mg) {n : Nat} (hn2 : 2 ≤ n) (hA : ∀ f sp, fitA K T f sp → Held P w K mg base 2 f sp)
    (G_TrueRun_word_in : FnOk P w K mg base CX0 1 T.a_TrueRun_word_in T.d_TrueRun_word_in ["self", "slot"] (spWordIn K T.c_TrueRun))
    (G_do_rows : FnOk P w K mg base CX0 n T.a_do_rows T.d_do_rows ["run", "rows"] (spDoRows K T.c_TrueRun (n - 2))) :
    FnOk P w K mg base CX0 (n + 1) T.a_do_rows T.d_do_rows ["run", "rows"] (spDoRows K T.c_TrueRun (n - 2 + 1)) := by
  refine T.F_do_rows.ok sc_do_rows (fun vs H Q E h => ?_) (fun cdv A outer s H vs Q E hr h => ?_)
  · obtain ⟨A, H0, st, kn, v, rs, m, S, dep, rfl, _⟩ := h
    rfl
  obtain ⟨A, H0, st, kn, v, rs, m, S, dep, rfl, hR, hK, hD, ok, hrd, few, hm, hdep, hn, q⟩ := h
  obtain ⟨a, xs, rfl, hS, hl, hx⟩ := rows_at hD
  refine ⟨_, (pss_cons (ps_for PassesOwn.never rfl (pi_tup (pv 1)) (pg_name (i := 2) sc_do_rows.nd rfl (Or.inl rfl)) (pss_cons (ps_if (pt_cmpR op_eq (pe_ix ix_tup (pv 2) pe_int (fun _ _ => rfl)) pe_str (nomark _)) (pss_cons (ps_fld (pv 0) (pe_meth (pv 0) T.l_TrueRun T.t_TrueRun_word_in G_TrueRun_word_in (hr.mono (by omega)) T.b_TrueRun_word_in .nil pass0 (pa_cons (pe_ix ix_tup (pv 2) pe_int (fun _ _ => rfl)) pa_nil)) rfl)
    (pss_one (ps_ret pe_bl))) pss_nil)
    (pss_one (ps_if (pt_cmpR op_eq (pe_ix ix_tup (pv 2) pe_int (fun _ _ => rfl)) pe_str (nomark _)) (pss_cons (ps_set (i := 3) sc_do_rows.nd rfl (Or.inl rfl) (pe_ifExp (pt_cmpR op_eq (pe_meth (pv 0) T.l_TrueRun T.t_TrueRun_word_in G_TrueRun_word_in (hr.mono (by omega)) T.b_TrueRun_word_in .nil pass0 (pa_cons (pe_ix ix_tup (pv 2) pe_int (fun _ _ => rfl)) pa_nil)) (pe_ix ix_tup (pv 2) pe_int (fun _ _ => rfl)) (nomark _)) (pe_ix ix_tup (pv 2) pe_int (fun _ _ => rfl)) (pe_ix ix_tup (pv 2) pe_int (fun _ _ => rfl))))
    (pss_one (ps_if (pt_val (pe_call G_do_rows (hr.mono (by omega)) rfl T.m_do_rows T.F_do_rows.kp T.b_do_rows .nil pass0 (pa_cons (pv 0) (pa_cons (pv 3) pa_nil)))) (pss_one (ps_ret pe_bl)) pss_nil))) (pss_cons (ps_set (i := 4) sc_do_rows.nd rfl (Or.inl rfl) (pe_ix ix_kdict (pe_glob (v := .ref T.a_ACTIONS) rfl T.c_ACTIONS rfl) (pe_ix ix_tup (pv 2) pe_int (fun _ _ => rfl)) (fun _ _ => rfl)))
    (pss_one (ps_expr (pe_callR (i := 4) (S := fitA K T) hA (hr.mono (by omega)) rfl (Or.inl rfl) (pa_cons (pv 0) (pa_cons (pv 2) pa_nil))))))))))
    (pss_one (ps_ret pe_bl))), ?_⟩
  refine ⟨_, rfl, a, rfl, ⟨_, SqT.same hR.same hS⟩, for_tup (K := K) (a := a) (xs := xs) (fun i σ H' => ∃ (v2 v3 v4 : Option V), σ = [some (.ref A.ra), some (.ref a), v2, v3, v4] ∧ RunAt K T.c_TrueRun A H0 H' (runRs (knF kn) A.d (rs.take i) st).1 ∧ (runRs (knF kn) A.d (rs.take i) st).2 = false)
    ⟨none, none, none, rfl, by simpa [runRs] using hR, by simp [runRs]⟩ (fun i σ H' _ ⟨_, _, _, _, h, _⟩ => SqT.same h.same hS) ?_ ?_⟩
  · rintro i x σ H1 hi ⟨v2, v3, v4, rfl, hR1, hf⟩
    obtain ⟨r, hr2, hDr⟩ := hx i x hi
    have okr := okRs_get ok hr2
    have few1 := few_Rs (knF kn) A.d (rs.take i) st m few
    have hcn : Td.cnt r + cnts (rs.take i) ≤ cnts rs := cnts_get hr2
    have nxt := runRs_next (kn := knF kn) (d := A.d) hr2 hf
    have stop := runRs_stop (kn := knF kn) (d := A.d) hr2 hf
    generalize (runRs (knF kn) A.d (rs.take i) st).1 = st1 at hR1 few1 nxt stop
    have h2 : ∀ pk c s, r = .rd pk c s → (getE kn c).isSome = true := fun pk c s e => by
      subst e; unfold okR at okr; exact hrd c okr.2.1
    obtain ⟨dx, e1⟩ := hR1.ob
    cases r with
    | give sl =>
      obtain ⟨ar, rfl, hSr0⟩ := give_at hDr
      have hSr := SqT.same hR1.same hSr0
      refine ⟨_, rfl, ar, _, 0, _, rfl, rfl, hSr, rfl, rfl, _, rfl, if_true_of (by decide +kernel) ?_⟩
      refine ⟨_, rfl, A.ra, dx, _, rfl, e1, fl_none .., _, rfl, ar, _, 1, _, rfl, rfl, hSr, rfl, A, H0, st1, sl, rfl, hR1, ?_⟩
      refine ⟨_, rfl, A.ra, _, dx, _, rfl, e1, T.l_TrueRun, T.n_TrueRun_given, by show 8 < 1000; decide, ?_⟩
      rw [fl_give]
      have eR : runR (knF kn) A.d (.give sl) st1 = ({ st1 with given := st1.word A.d sl }, true) := by simp only [runR]
      have st2 := stop (by rw [eR])
      have h := q _ (by rw [st2, eR]; exact hR1.give _ e1)
      rw [st2, eR] at h
      exact h
    | ite sl u y n' =>
      obtain ⟨ar, vy, vn, rfl, hSr0, hyD, hnD⟩ := ite_at hDr
      have hSr := SqT.same hR1.same hSr0
      have ecn : Td.cnt (Td.Row.ite sl u y n') = 1 + cnts y + cnts n' := by unfold Td.cnt; rfl
      unfold okR at okr
      refine ⟨_, rfl, ar, _, 0, _, rfl, rfl, hSr, rfl, rfl, _, rfl, if_false_of (by decide +kernel) ?_⟩
      refine ⟨_, rfl, ar, _, 0, _, rfl, rfl, hSr, rfl, rfl, _, rfl, if_true_of (by decide +kernel) ?_⟩
      refine ⟨_, rfl, A.ra, dx, _, rfl, e1, fl_none .., _, rfl, ar, _, 1, _, rfl, rfl, hSr, rfl, A, H0, st1, sl, rfl, hR1, ?_⟩
      refine ⟨_, rfl, ar, _, 2, _, rfl, rfl, hSr, rfl, rfl, _, rfl, ?_⟩
      by_cases hw : st1.word A.d sl = u
      · refine if_true_of (by rw [hw]; exact decide_eq_true rfl) ?_
        refine ⟨_, rfl, ar, _, 3, _, rfl, rfl, hSr, rfl, ?_⟩
        refine ⟨_, rfl, _, rfl, A, H0, st1, kn, vy, y, _, S, dep + 1, rfl, hR1, hK, hyD, okr.2.2.2.1, hrd, few1, by omega, by omega, by omega, fun H2 hR2 => ?_⟩
        have eR : runR (knF kn) A.d (.ite sl u y n') st1 = runRs (knF kn) A.d y st1 := by simp only [runR, if_pos hw]
        cases hb : (runRs (knF kn) A.d y st1).2 with
        | true =>
          have st2 := stop (by rw [eR]; exact hb)
          have h := q _ (by rw [st2, eR]; exact hR2)
          rw [st2, eR, hb] at h
          exact ⟨_, rfl, if_true_of rfl h⟩
        | false => exact ⟨_, rfl, if_false_of rfl ⟨_, _, _, rfl, by rw [nxt, eR]; exact hR2, by rw [nxt, eR]; exact hb⟩⟩
      · refine if_false_of (decide_eq_false (fun h => hw (by injection h))) ?_
        refine ⟨_, rfl, ar, _, 4, _, rfl, rfl, hSr, rfl, ?_⟩
        refine ⟨_, rfl, _, rfl, A, H0, st1, kn, vn, n', _, S, dep + 1, rfl, hR1, hK, hnD, okr.2.2.2.2, hrd, few1, by omega, by omega, by omega, fun H2 hR2 => ?_⟩
        have eR : runR (knF kn) A.d (.ite sl u y n') st1 = runRs (knF kn) A.d n' st1 := by simp only [runR, if_neg hw]
        cases hb : (runRs (knF kn) A.d n' st1).2 with
        | true =>
          have st2 := stop (by rw [eR]; exact hb)
          have h := q _ (by rw [st2, eR]; exact hR2)
          rw [st2, eR, hb] at h
          exact ⟨_, rfl, if_true_of rfl h⟩
        | false => exact ⟨_, rfl, if_false_of rfl ⟨_, _, _, rfl, by rw [nxt, eR]; exact hR2, by rw [nxt, eR]; exact hb⟩⟩
    | rd pk c s =>
      obtain ⟨ar, rfl, hSr0⟩ := rd_at hDr
      have hSr := SqT.same hR1.same hSr0
      cases pk with
      | false =>
        refine ⟨_, rfl, ar, _, 0, _, rfl, rfl, hSr, rfl, rfl, _, rfl, if_false_of (by decide +kernel) ?_⟩
        refine ⟨_, rfl, ar, _, 0, _, rfl, rfl, hSr, rfl, rfl, _, rfl, if_false_of (by decide +kernel) ?_⟩
        refine ⟨_, rfl, ar, _, 0, _, rfl, rfl, hSr, rfl, _, _, _, rfl, rfl, T.w_ACTIONS_read, ?_⟩
        refine ⟨_, _, rfl, .inl ⟨rfl, rfl⟩, _, rfl, _, rfl, A, H0, st1, kn, _, _, _, rfl, ⟨c, s, rfl⟩, hR1, hK, hDr, few1, by omega, h2, fun H2 hR2 => ?_⟩
        have eR : (runR (knF kn) A.d (.rd false c s) st1).2 = false := by simp only [runR]
        exact ⟨_, _, _, rfl, by rw [nxt]; exact hR2, by rw [nxt, eR]⟩
      | true =>
        refine ⟨_, rfl, ar, _, 0, _, rfl, rfl, hSr, rfl, rfl, _, rfl, if_false_of (by decide +kernel) ?_⟩
        refine ⟨_, rfl, ar, _, 0, _, rfl, rfl, hSr, rfl, rfl, _, rfl, if_false_of (by decide +kernel) ?_⟩
        refine ⟨_, rfl, ar, _, 0, _, rfl, rfl, hSr, rfl, _, _, _, rfl, rfl, T.w_ACTIONS_peek, ?_⟩
        refine ⟨_, _, rfl, .inr (.inl ⟨rfl, rfl⟩), _, rfl, _, rfl, A, H0, st1, kn, _, _, _, rfl, ⟨c, s, rfl⟩, hR1, hK, hDr, few1, by omega, h2, fun H2 hR2 => ?_⟩
        have eR : (runR (knF kn) A.d (.rd true c s) st1).2 = false := by simp only [runR]
        exact ⟨_, _, _, rfl, by rw [nxt]; exact hR2, by rw [nxt, eR]⟩
    | put c s =>
      obtain ⟨ar, rfl, hSr0⟩ := put_at hDr
      have hSr := SqT.same hR1.same hSr0
      refine ⟨_, rfl, ar, _, 0, _, rfl, rfl, hSr, rfl, rfl, _, rfl, if_false_of (by decide +kernel) ?_⟩
      refine ⟨_, rfl, ar, _, 0, _, rfl, rfl, hSr, rfl, rfl, _, rfl, if_false_of (by decide +kernel) ?_⟩
      refine ⟨_, rfl, ar, _, 0, _, rfl, rfl, hSr, rfl, _, _, _, rfl, rfl, T.w_ACTIONS_put, ?_⟩
      refine ⟨_, _, rfl, .inr (.inr (.inl ⟨rfl, rfl⟩)), _, rfl, _, rfl, A, H0, st1, kn, _, _, _, rfl, ⟨c, s, rfl⟩, hR1, hK, hDr, few1, by omega, h2, fun H2 hR2 => ?_⟩
      have eR : (runR (knF kn) A.d (.put c s) st1).2 = false := by simp only [runR]
      exact ⟨_, _, _, rfl, by rw [nxt]; exact hR2, by rw [nxt, eR]⟩
    | wr c s =>
      obtain ⟨ar, rfl, hSr0⟩ := wr_at hDr
      have hSr := SqT.same hR1.same hSr0
      refine ⟨_, rfl, ar, _, 0, _, rfl, rfl, hSr, rfl, rfl, _, rfl, if_false_of (by decide +kernel) ?_⟩
      refine ⟨_, rfl, ar, _, 0, _, rfl, rfl, hSr, rfl, rfl, _, rfl, if_false_of (by decide +kernel) ?_⟩
      refine ⟨_, rfl, ar, _, 0, _, rfl, rfl, hSr, rfl, _, _, _, rfl, rfl, T.w_ACTIONS_write, ?_⟩
      refine ⟨_, _, rfl, .inr (.inr (.inr (.inl ⟨rfl, rfl⟩))), _, rfl, _, rfl, A, H0, st1, kn, _, _, _, rfl, ⟨c, s, rfl⟩, hR1, hK, hDr, few1, by omega, h2, fun H2 hR2 => ?_⟩
      have eR : (runR (knF kn) A.d (.wr c s) st1).2 = false := by simp only [runR]
      exact ⟨_, _, _, rfl, by rw [nxt]; exact hR2, by rw [nxt, eR]⟩
    | say s =>
      obtain ⟨ar, rfl, hSr0⟩ := say_at hDr
      have hSr := SqT.same hR1.same hSr0
      refine ⟨_, rfl, ar, _, 0, _, rfl, rfl, hSr, rfl, rfl, _, rfl, if_false_of (by decide +kernel) ?_⟩
      refine ⟨_, rfl, ar, _, 0, _, rfl, rfl, hSr, rfl, rfl, _, rfl, if_false_of (by decide +kernel) ?_⟩
      refine ⟨_, rfl, ar, _, 0, _, rfl, rfl, hSr, rfl, _, _, _, rfl, rfl, T.w_ACTIONS_say, ?_⟩
      refine ⟨_, _, rfl, .inr (.inr (.inr (.inr ⟨rfl, rfl⟩))), _, rfl, _, rfl, A, H0, st1, kn, _, _, _, rfl, ⟨s, rfl⟩, hR1, hK, hDr, few1, by omega, h2, fun H2 hR2 => ?_⟩
      have eR : (runR (knF kn) A.d (.say s) st1).2 = false := by simp only [runR]
      exact ⟨_, _, _, rfl, by rw [nxt]; exact hR2, by rw [nxt, eR]⟩
  · rintro σ H1 ⟨v2, v3, v4, rfl, hR1, hf⟩
    rw [hl, List.take_length] at hR1 hf
    have h := q _ hR1
    rw [hf] at h
    exact h
theorem ok_do_rows (T : Tops w K mg) (hA : ∀ f sp, fitA K T f sp → Held P w K mg base 2 f sp)
    (G1 : FnOk P w K mg base CX0 1 T.a_TrueRun_word_in T.d_TrueRun_word_in ["self", "slot"] (spWordIn K T.c_TrueRun)) :
    ∀ k, FnOk P w K mg base CX0 (k + 2) T.a_do_rows T.d_do_rows ["run", "rows"] (spDoRows K T.c_TrueRun k)
  | 0 => by
    have no : ∀ vs H Q E, ¬ spDoRows K T.c_TrueRun 0 vs H Q E := fun vs H Q E h => by
      obtain ⟨_, _, _, _, _, _, _, _, dep, _, _, _, _, _, _, _, _, h1, h2, _⟩ := h
      omega
    exact ⟨fun vs H Q E h => absurd h (no vs H Q E), fun A outer s H args us vs Q E _ _ _ _ h => absurd h (no vs H Q E)⟩
  | k + 1 => ok_do_rows1 T (n := k + 2) (by omega) hA G1 (ok_do_rows T hA G1 k)
end
end K68
namespace K68
open PySem PySem.Spec PyProof.Rows L2 Td
def d0 (p : PP) : Str := p.words.headD ""
theorem d0_at {p : PP} {m : Nat} (ok : p.Ok m) : atI (p.words.map V.str) 0 = some (.str (d0 p)) := by
  have h := ok.w2
  unfold d0
  cases hw : p.words with
  | nil => rw [hw] at h; simp at h
  | cons z r => exact atI_nat (j := 0) rfl
def spTruly (K : PySem.W.Frag) (CP C : Addr) : Sp := fun vs H Q _ => ∃ (pa kd : Addr) (v : V) (p : PP) (m : Nat) (rs : List Td.Row) (kn : Td.Env) (S : Sc), vs = [.ref pa, .ref kd, v] ∧ ProgAt K H CP pa p ∧ p.Ok m ∧ H kd = some (.dK (kv kn)) ∧
  Dp K H v (.tuple (rowsD rs)) ∧ okRs S 1 rs ∧ (∀ c ∈ S.readable, (getE kn c).isSome = true) ∧ cnts rs ≤ 100 ∧
  ∀ (A : RA) H', A.kd = kd → A.d = d0 p → RunAt K C A H H' (runRs (knF kn) (d0 p) rs (rs0 (d0 p))).1 → Q (.ref A.ra) H'
def spStart (K : PySem.W.Frag) (CP : Addr) : Sp := fun vs H Q _ => ∃ (pa wa : Addr) (p : PP) (m : Nat) (ws : List Str), vs = [.ref pa, .ref wa] ∧ ProgAt K H CP pa p ∧ p.Ok m ∧ SqT K H wa (ws.map V.str) ∧ ws.length = p.sources.length ∧ (∀ z ∈ ws, z ∈ p.words) ∧
  ∀ H', Same H H' → Q .non H'
section
variable {P : Program} {w : World} {K : PySem.W.Frag} {mg : Str → Option Value} {base : Heap}
theorem ok_truly (T : Tops w K mg) (G_TrueRun_init : FnOk P w K mg base CX0 2 T.a_TrueRun_init T.d_TrueRun_init ["self", "default", "known"] (spTrueRun K T.c_TrueRun))
    (G_do_rows : FnOk P w K mg base CX0 6 T.a_do_rows T.d_do_rows ["run", "rows"] (spDoRows K T.c_TrueRun 4)) :
    FnOk P w K mg base CX0 7 T.a_run_truly T.d_run_truly ["program", "known", "rows"] (spTruly K T.c_Program T.c_TrueRun) := by
  refine T.F_run_truly.ok sc_run_truly (fun vs H Q E h => ?_) (fun cdv A outer s H vs Q E hr h => ?_)
  · obtain ⟨pa, kd, v, p, m, rs, kn, S, rfl, _⟩ := h
    rfl
  obtain ⟨pa, kd, v, p, m, rs, kn, S, rfl, hP, ok, hK, hD, okr, hrd, hc, q⟩ := h
  obtain ⟨dx, aw, as, vd, ve, ⟨dn, en, e, hdn, hen⟩, h1, h2, h3, h4⟩ := hP.ex
  refine ⟨_, (pss_cons (ps_set (i := 3) sc_run_truly.nd rfl (Or.inl rfl) (pe_make T.k_TrueRun G_TrueRun_init (hr.mono (by omega)) rfl T.m_TrueRun T.b_TrueRun_init .nil pass0 (pa_cons (pe_ix ix_tup (pe_fld (pv 0) rfl) pe_int (fun _ _ => rfl)) (pa_cons (pv 1) pa_nil))))
    (pss_cons (ps_expr (pe_call G_do_rows (hr.mono (by omega)) rfl T.m_do_rows T.F_do_rows.kp T.b_do_rows .nil pass0 (pa_cons (pv 3) (pa_cons (pv 2) pa_nil))))
    (pss_one (ps_ret (pv 3))))), ?_⟩
  refine ⟨_, rfl, pa, _, dx, _, _, rfl, e, T.l_Program, T.n_Program_words, progF_words .., aw, _, 0, _, rfl, rfl, h1, d0_at ok, _, rfl, fun x dx2 hx hdx hne => ?_⟩
  have hs : Same H (upd (upd H dx2 (.own x)) x (.ins T.c_TrueRun dx2 [])) := (Same.new hdx _).trans (Same.new (by rw [upd_ne (Ne.symm hne)]; exact hx) _)
  refine ⟨x, dx2, kd, d0 p, H, rfl, upd_same, hs, hx, fun A' H1 hA hkd hd hR => ⟨rfl, ?_⟩⟩
  subst hA
  refine ⟨_, rfl, _, rfl, A', H, _, kn, v, rs, 0, S, 1, rfl, hR, by rw [hkd]; exact hK, hD, okr, hrd, ⟨Nat.le_refl _, Nat.le_refl _, Nat.le_refl _, Nat.le_refl _, Nat.le_refl _⟩, by omega, by omega, by omega, fun H2 hR2 => ?_⟩
  rw [hd] at hR2
  exact ⟨_, rfl, q A' H2 hkd hd hR2⟩
def spIsStart (K : PySem.W.Frag) (CP : Addr) : Sp := fun vs H Q _ => ∃ (pa wa : Addr) (p : PP) (m : Nat) (ws : List Str), vs = [.ref pa, .ref wa] ∧ ProgAt K H CP pa p ∧ p.Ok m ∧ SqT K H wa (ws.map V.str) ∧ ws.length = p.sources.length ∧ (∀ z ∈ ws, z ∈ p.words) ∧
  ∀ H', Same H H' → Q (.bl true) H'
theorem ok_is_start (T : Tops w K mg) : FnOk P w K mg base CX0 1 T.a_is_start T.d_is_start ["program", "words"] (spIsStart K T.c_Program) := by
  refine T.F_is_start.ok sc_is_start (fun vs H Q E h => ?_) (fun cdv A outer s H vs Q E hr h => ?_)
  · obtain ⟨pa, wa, p, m, ws, rfl, _⟩ := h
    rfl
  obtain ⟨pa, wa, p, m, ws, rfl, hP, ok, hW, hl, hw, q⟩ := h
  obtain ⟨dx, aw, as, vd, ve, ⟨dn, en, e, hdn, hen⟩, h1, h2, h3, h4⟩ := hP.ex
  have s4 := ok.s4
  refine ⟨_, (pss_cons (ps_if (PW.pt (pw_or (pt_not (pt_val (pe_callB call_isi rfl T.z_isinstance (by decide +kernel) (pa_cons (pv 1) (pa_cons (pe_bltn (v := .ty "tuple") rfl T.z_tuple (by decide +kernel) rfl) pa_nil))))) (pw_or1 (pt_cmpR op_ne (pe_callB call_len rfl T.z_len PySem.boot_len (pa_cons (pv 1) pa_nil)) (pe_callB call_len rfl T.z_len PySem.boot_len (pa_cons (pe_fld (pv 0) rfl) pa_nil)) (nomark _))))) (pss_one (ps_ret pe_bl)) pss_nil)
    (pss_one (ps_ret (pe_callB (cr_all rfl) rfl T.z_all (by decide +kernel) (pa_cons (pe_lc (own := [("word", 2)]) (g := gName 2) (tt := tYes) (te := tOp (rIn K false) (tVar 2) (tFld K (tVar 0) "words")) rfl sc_is_start.nd (pi_tup (pv 1)) (blkOk_by (own := [("word", 2)]) (N := N_is_start) (sc := defScope s_is_start) (by decide +kernel)) (fun _ _ _ _ _ => (pg_name (i := 2) sc_is_start.nd rfl (Or.inl rfl))) (fun _ _ _ _ _ => pts_nil) (fun _ _ _ _ _ => (pe_cmpR op_in_seq (pv 2) (pe_fld (pv 0) rfl) (by rfl)))) pa_nil))))), ?_⟩
  refine ⟨_, rfl, .ref wa, .ty "tuple", .type "tuple", .type "tuple", true, rfl, .ty _, ty_tup hW, kit_ty (by decide +kernel), true, rfl, iteF ?_⟩
  refine ⟨_, rfl, .ref wa, _, rfl, .inr ⟨_, hW, rfl⟩, _, rfl, pa, _, dx, _, _, rfl, e, T.l_Program, T.n_Program_sources, progF_sources .., .ref as, _, rfl, .inr ⟨_, h2, rfl⟩, rfl, _, rfl, ?_⟩
  refine if_false_of (by rw [List.length_map, List.length_map, hl]; show (!decide (V.int (p.sources.length : Nat) = V.int (p.sources.length : Nat))) = false; rw [decide_eq_true rfl]; rfl) ?_
  refine ⟨_, rfl, wa, rfl, ⟨_, hW⟩, fun D hD => lc_tup (K := K) (a := wa) (xs := ws.map V.str) (fun i H' => ∃ bs : List Bool, Same H H' ∧ H' D = some (.lst (bs.map V.bl)) ∧ bs.length = i ∧ bs.all id = true)
    ⟨[], Same.new hD _, upd_same, rfl, rfl⟩ (fun i H' _ ⟨_, hs, _⟩ => SqT.same hs hW) ?_ ?_⟩
  · rintro i x H' hx ⟨bs, hs, hb, hl', ha⟩
    rw [List.getElem?_map] at hx
    obtain ⟨z, hz, rfl⟩ := Option.map_eq_some_iff.mp hx
    have hi : i < ws.length := (List.getElem?_eq_some_iff.mp hz).1
    refine ⟨rfl, ?_⟩
    refine tYes_of ?_
    refine ⟨_, rfl, _, rfl, pa, _, dx, _, _, rfl, hs _ _ e, T.l_Program, T.n_Program_words, progF_words .., aw, _, rfl, .inr (SqT.same hs h1), rfl, L2.flat_strs _, ?_⟩
    refine ⟨_, hb, small1000 (by rw [List.length_map]; omega), bs ++ [true], ?_, by rw [upd_same, List.map_append, in_of (hw z (List.mem_of_getElem? hz))]; rfl, by rw [List.length_append, hl']; rfl, by rw [List.all_append, ha]; rfl⟩
    intro b o e
    rw [upd_ne (ne_of_none e hD)]
    exact hs b o e
  · rintro H' ⟨bs, hs, hb, hl', ha⟩
    refine ⟨D, bs, rfl, SqL.of hb, ?_⟩
    rw [ha]
    exact q H' hs
theorem ok_start (T : Tops w K mg) (G_is_start : FnOk P w K mg base CX0 1 T.a_is_start T.d_is_start ["program", "words"] (spIsStart K T.c_Program)) : FnOk P w K mg base CX0 2 T.a_check_start T.d_check_start ["program", "words"] (spStart K T.c_Program) := by
  refine T.F_check_start.ok sc_check_start (fun vs H Q E h => ?_) (fun cdv A outer s H vs Q E hr h => ?_)
  · obtain ⟨pa, wa, p, m, ws, rfl, _⟩ := h
    rfl
  obtain ⟨pa, wa, p, m, ws, rfl, hP, ok, hW, hl, hw, q⟩ := h
  refine ⟨_, (pss_one (ps_if (pt_not (pt_val (pe_call G_is_start (hr.mono (by omega)) rfl T.m_is_start T.F_is_start.kp T.b_is_start .nil pass0 (pa_cons (pv 0) (pa_cons (pv 1) pa_nil))))) (pss_one ps_never) pss_nil)), ?_⟩
  exact ⟨_, rfl, _, rfl, pa, wa, p, m, ws, rfl, hP, ok, hW, hl, hw, fun H' s' => ⟨_, rfl, if_false_of rfl (q H' s')⟩⟩
end
end K68
namespace K68
open PySem PySem.Spec PyProof.Rows L2 Td
/-- the words told, a derived cell's behind those ahead of it -/
def tell (d : Str) : Td.Env → List (Str × List Td.Row) → Td.Env
  | kn, [] => kn
  | kn, q :: ps => tell d (putE kn q.1 (runRs (knF kn) d q.2 (rs0 d)).1.given) ps
theorem tell_snoc (d : Str) : ∀ (ps : List (Str × List Td.Row)) (kn : Td.Env) (q : Str × List Td.Row), tell d kn (ps ++ [q]) = putE (tell d kn ps) q.1 (runRs (knF (tell d kn ps)) d q.2 (rs0 d)).1.given
  | [], kn, q => rfl
  | r :: ps, kn, q => tell_snoc d ps _ q
theorem tell_len (d : Str) : ∀ (ps : List (Str × List Td.Row)) (kn : Td.Env), (tell d kn ps).length ≤ kn.length + ps.length
  | [], kn => Nat.le_refl _
  | r :: ps, kn => by
    refine Nat.le_trans (tell_len d ps _) ?_
    have := putE_len kn r.1 (runRs (knF kn) d r.2 (rs0 d)).1.given
    rw [List.length_cons]; omega
theorem tell_has (d : Str) (c : Str) : ∀ (ps : List (Str × List Td.Row)) (kn : Td.Env), (getE kn c).isSome = true ∨ c ∈ ps.map (·.1) → (getE (tell d kn ps) c).isSome = true
  | [], kn, h => by
    rcases h with h | h
    · exact h
    · cases h
  | r :: ps, kn, h => by
    refine tell_has d c ps _ ?_
    rw [getE_put]
    by_cases e : c = r.1
    · exact .inl (by rw [if_pos e]; rfl)
    · rcases h with h | h
      · exact .inl (by rw [if_neg e]; exact h)
      · rcases List.mem_cons.mp h with h | h
        · exact absurd h e
        · exact .inr h
theorem zip_has {c : Str} : ∀ {ss ws : List Str}, c ∈ ss → ss.length = ws.length → (getE (ss.zip ws) c).isSome = true
  | [], _, h, _ => by cases h
  | s :: ss, [], _, h => by cases h
  | s :: ss, w :: ws, h, hl => by
    rw [List.zip_cons_cons, getE_cons]
    by_cases e : s = c
    · simp [e]
    · rw [if_neg e]
      refine zip_has ?_ (by simpa using hl)
      rcases List.mem_cons.mp h with h | h
      · exact absurd h.symm e
      · exact h
def known0 (p : PP) (ws : List Str) : Td.Env := tell (d0 p) (p.sources.zip ws) p.derived
theorem merge_kv (L : Td.Env) : ∀ M : Td.Env, ((M ++ L).map (·.1)).Nodup → mergeK (kv M) (kv L) = kv (M ++ L) := by
  induction L with
  | nil => intro M _; rw [List.append_nil]; rfl
  | cons p r ih =>
    intro M h
    have e : M ++ p :: r = (M ++ [p]) ++ r := by simp
    have hn : ¬ (M.any fun q => decide (q.1 = p.1)) = true := by
      intro hh
      obtain ⟨q, hq, he⟩ := List.any_eq_true.mp hh
      rw [List.map_append, List.map_cons] at h
      exact (List.nodup_append.mp h).2.2 q.1 (List.mem_map.mpr ⟨q, hq, rfl⟩) p.1 List.mem_cons_self (of_decide_eq_true he)
    have e2 : putE M p.1 p.2 = M ++ [p] := by unfold putE; rw [if_neg hn]
    rw [e] at h ⊢
    rw [← ih (M ++ [p]) h, ← e2, ← kv_put]
    rfl
theorem kv_zip (ss ws : List Str) : kv (ss.zip ws) = (ss.map Sum.inr : List Key).zip (ws.map V.str) := by
  unfold kv
  rw [List.zip_map]
  rfl
def spKnown (K : PySem.W.Frag) (CP : Addr) : Sp := fun vs H Q _ => ∃ (pa wa : Addr) (p : PP) (m : Nat) (ws : List Str), vs = [.ref pa, .ref wa] ∧ ProgAt K H CP pa p ∧ p.Ok m ∧ m ≤ 16 ∧ SqT K H wa (ws.map V.str) ∧ ws.length = p.sources.length ∧
  ∀ (kd : Addr) H', Same H H' → H' kd = some (.dK (kv (known0 p ws))) → Q (.ref kd) H'
theorem cellsNodup {p : PP} {m : Nat} (ok : p.Ok m) : p.sources.Nodup := by
  have h := ok.nn.nd
  unfold PP.names at h
  rw [List.append_assoc] at h
  exact h.sublist (List.sublist_append_left _ _)
section
variable {P : Program} {w : World} {K : PySem.W.Frag} {mg : Str → Option Value} {base : Heap}
theorem ok_known (T : Tops w K mg) (G_run_truly : FnOk P w K mg base CX0 7 T.a_run_truly T.d_run_truly ["program", "known", "rows"] (spTruly K T.c_Program T.c_TrueRun)) :
    FnOk P w K mg base CX0 8 T.a_known_words T.d_known_words ["program", "words"] (spKnown K T.c_Program) := by
  refine T.F_known_words.ok sc_known_words (fun vs H Q E h => ?_) (fun cdv A outer s H vs Q E hr h => ?_)
  · obtain ⟨pa, wa, p, m, ws, rfl, _⟩ := h
    rfl
  obtain ⟨pa, wa, p, m, ws, rfl, hP, ok, hm, hW, hl, q⟩ := h
  obtain ⟨dx, aw, as, vd, ve, ⟨dn, en, e, hdn, hen⟩, h1, h2, h3, h4⟩ := hP.ex
  have s4 := ok.s4
  have d6 := ok.d6
  obtain ⟨ad, xs, rfl, hA, hxl, hx⟩ := pairs_at h3
  refine ⟨_, (pss_cons (ps_set (i := 2) sc_known_words.nd rfl (Or.inl rfl) (pe_dictZip rfl rfl T.z_dict rfl T.z_zip (pa_cons (pe_fld (pv 0) rfl) (pa_cons (pv 1) pa_nil))))
    (pss_cons (ps_for PassesOwn.never rfl (pi_tup (pe_fld (pv 0) rfl)) (pg_tup rfl (pgs_cons (pg_name (i := 3) sc_known_words.nd rfl (Or.inl rfl)) (pgs_cons (pg_name (i := 4) sc_known_words.nd rfl (Or.inl rfl)) pgs_nil))) (pss_one (ps_dput (hu_of hr) (pv 2) (pv 3) (pe_fld (pe_call G_run_truly (hr.mono (by omega)) rfl T.m_run_truly T.F_run_truly.kp T.b_run_truly .nil pass0 (pa_cons (pv 0) (pa_cons (pv 2) (pa_cons (pv 4) pa_nil)))) rfl) rfl)))
    (pss_one (ps_ret (pv 2))))), ?_⟩
  refine ⟨_, rfl, pa, _, dx, _, _, rfl, e, T.l_Program, T.n_Program_sources, progF_sources .., _, rfl, as, wa, p.sources.map Sum.inr, ws.map V.str, rfl, by rw [List.map_map]; exact h2, hW, by rw [List.length_map, List.length_map, hl], fun kd hkd => ?_⟩
  have em : mergeK [] ((p.sources.map Sum.inr : List Key).zip (ws.map V.str)) = kv (p.sources.zip ws) := by
    rw [← kv_zip]
    refine merge_kv (p.sources.zip ws) [] ?_
    rw [List.nil_append, List.map_fst_zip (Nat.le_of_eq hl.symm)]
    exact cellsNodup ok
  rw [em]
  have hs0 : Same H (upd H kd (.dK (kv (p.sources.zip ws)))) := Same.new hkd _
  have hK0 : upd H kd (.dK (kv (p.sources.zip ws))) kd = some (.dK (kv (p.sources.zip ws))) := upd_same
  dsimp only
  generalize upd H kd (.dK (kv (p.sources.zip ws))) = H1 at hs0 hK0
  have zl : (p.sources.zip ws).length ≤ 4 := by rw [List.length_zip]; omega
  refine ⟨_, rfl, pa, _, dx, _, _, rfl, hs0 _ _ e, T.l_Program, T.n_Program_derived, progF_derived .., ad, rfl, ⟨_, SqT.same hs0 hA⟩, for_tup (K := K) (a := ad) (xs := xs) (fun i σ H' => ∃ (v3 v4 : Option V), σ = [some (.ref pa), some (.ref wa), some (.ref kd), v3, v4] ∧ Same H H' ∧ H' kd = some (.dK (kv (tell (d0 p) (p.sources.zip ws) (p.derived.take i)))))
    ⟨none, none, rfl, hs0, hK0⟩ (fun i σ H' _ ⟨_, _, _, hs, _⟩ => SqT.same hs hA) ?_ ?_⟩
  · rintro i x σ H2 hi ⟨v3, v4, rfl, hs, hK⟩
    obtain ⟨qq, b, vr, hq, rfl, hB, hT⟩ := hx i x hi
    obtain ⟨okd, hcd⟩ := okDer_get ok.der hq
    refine ⟨b, _, rfl, SqT.same hs hB, rfl, _, _, rfl, _, _, rfl, rfl, ?_⟩
    refine ⟨_, rfl, _, rfl, _, rfl, pa, kd, vr, p, m, qq.2, _, _, rfl, hP.same hs, ok, hK, Dp.same hs hT.dp, okd, fun c hc => ?_, by omega, fun A' H3 hkd' hd' hR => ?_⟩
    · refine tell_has _ _ _ _ ?_
      rcases List.mem_append.mp hc with h | h
      · exact .inl (zip_has h hl.symm)
      · exact .inr h
    · obtain ⟨dx2, e2⟩ := hR.ob
      have hlen := tell_len (d0 p) (p.derived.take i) (p.sources.zip ws)
      have htk : (p.derived.take i).length ≤ 6 := by rw [List.length_take]; omega
      refine ⟨A'.ra, _, dx2, _, _, rfl, e2, T.l_TrueRun, T.n_TrueRun_given, fl_given .., _, rfl, _, rfl, kd, _, rfl, put_kv (hR.same _ _ hK) (small1000 (by omega)), _, _, rfl, own_same (hs.trans hR.same) hkd, ?_⟩
      rw [upd_same, take_more hq, tell_snoc]
  · rintro σ H2 ⟨v3, v4, rfl, hs, hK⟩
    rw [hxl, List.take_length] at hK
    exact ⟨_, rfl, q kd H2 hs hK⟩
end
end K68
namespace K68
open PySem PySem.Spec PyProof.Rows L2 Td
def envD (L : Td.Env) : PyData := .tuple (L.map wrD)
def ansK (vn vp vs vw : Addr) (vo : V) : List (Key × V) := [(.inr "notes", .ref vn), (.inr "peeks", .ref vp), (.inr "says", .ref vs), (.inr "writes", .ref vw), (.inr "word", vo)]
theorem ansK_merge (vn vp vs vw : Addr) (vo : V) : mergeK [] (ansK vn vp vs vw vo) = ansK vn vp vs vw vo := by kernel_rfl
def wordV (dv : Bool) (g : Str) : V := if dv then .str g else .non
structure AnsAt (K : PySem.W.Frag) (H : Hp) (a : Addr) (st : RS) (dv : Bool) : Prop where
  ex : ∃ vn vp vs vw : Addr, H a = some (.dK (ansK vn vp vs vw (wordV dv st.given))) ∧ Tn K H (.ref vn) (envD st.noted) ∧ Tn K H (.ref vp) (envD st.peeked) ∧ Tn K H (.ref vs) (strsD st.said) ∧ Tn K H (.ref vw) (envD st.written)
theorem AnsAt.same {K : PySem.W.Frag} {H H' : Hp} {a : Addr} {st : RS} {dv : Bool} (h : AnsAt K H a st dv) (s : Same H H') : AnsAt K H' a st dv := by
  obtain ⟨vn, vp, vs, vw, e, h1, h2, h3, h4⟩ := h.ex
  exact ⟨vn, vp, vs, vw, s _ _ e, Tn.same s h1, Tn.same s h2, Tn.same s h3, Tn.same s h4⟩
/-- how a body runs -/
def runOf (p : PP) (ws : List Str) (rs : List Td.Row) : RS := (runRs (knF (known0 p ws)) (d0 p) rs (rs0 (d0 p))).1
def isDer (p : PP) (z : Str) : Bool := decide (z ∈ p.derived.map (·.1))
def spTrue (K : PySem.W.Frag) (CP : Addr) : Sp := fun vs H Q _ => ∃ (pa wa : Addr) (z : Str) (p : PP) (m : Nat) (ws : List Str) (q : Str × List Td.Row), vs = [.ref pa, .ref wa, .str z] ∧ ProgAt K H CP pa p ∧ p.Ok m ∧ m ≤ 16 ∧ SqT K H wa (ws.map V.str) ∧ ws.length = p.sources.length ∧ (∀ z ∈ ws, z ∈ p.words) ∧
  q ∈ p.derived ++ p.effects ∧ q.1 = z ∧ ∀ (a : Addr) H', Same H H' → H a = none → AnsAt K H' a (runOf p ws q.2) (isDer p z) → Q (.ref a) H'
theorem pairs_tn {K : PySem.W.Frag} {H : Hp} {ts : List Addr} {L : Td.Env} (h : Paired (fun (t : Addr) (q : Key × V) => H t = some (.tup [kV q.1, q.2])) ts (kv L)) : TnAll K H (ts.map V.ref) (L.map wrD) := by
  induction L generalizing ts with
  | nil => cases h; exact .nil
  | cons p r ih =>
    unfold kv at h
    rw [List.map_cons] at h
    cases h with
    | cons a b => exact .cons (.tup (SqT.of a) (.cons (.str _) (.cons (.str _) .nil))) (ih b)
theorem body_scope {p : PP} {m : Nat} {ws : List Str} {q : Str × List Td.Row} (ok : p.Ok m) (hl : ws.length = p.sources.length) (hin : q ∈ p.derived ++ p.effects) :
    ∃ S : Sc, okRs S 1 q.2 ∧ (∀ c ∈ S.readable, (getE (known0 p ws) c).isSome = true) ∧ cnts q.2 ≤ m := by
  have has : ∀ c, c ∈ p.sources ∨ c ∈ p.derived.map (·.1) → (getE (known0 p ws) c).isSome = true := fun c h => by
    refine tell_has _ _ _ _ ?_
    rcases h with h | h
    · exact .inl (zip_has h hl.symm)
    · exact .inr h
  rcases List.mem_append.mp hin with h | h
  · obtain ⟨i, hi⟩ := List.getElem?_of_mem h
    obtain ⟨h1, h2⟩ := okDer_get ok.der hi
    refine ⟨_, h1, fun c hc => has c ?_, h2⟩
    rcases List.mem_append.mp hc with hc | hc
    · exact .inl hc
    · obtain ⟨r, hr, e⟩ := List.mem_map.mp hc
      exact .inr (List.mem_map.mpr ⟨r, List.mem_of_mem_take hr, e⟩)
  · obtain ⟨i, hi⟩ := List.getElem?_of_mem h
    obtain ⟨h1, h2⟩ := okEff_get ok.eff hi
    exact ⟨_, h1, fun c hc => has c (List.mem_append.mp hc), h2⟩
theorem free_of {H0 H : Hp} {a : Addr} (s : Same H0 H) (h : H a = none) : H0 a = none := by
  cases e : H0 a with
  | none => rfl
  | some o => rw [s _ _ e] at h; cases h
theorem der_eff {p : PP} {m : Nat} {q : Str × List Td.Row} (ok : p.Ok m) (hin : q ∈ p.derived ++ p.effects) : decide (q.1 ∈ p.effects.map (·.1)) = !isDer p q.1 := by
  have nd := ok.nn.nd
  unfold PP.names at nd
  rw [List.append_assoc] at nd
  have nd2 := nd.sublist (List.sublist_append_right _ _)
  have dj := (List.nodup_append.mp nd2).2.2
  unfold isDer
  rcases List.mem_append.mp hin with h | h
  · have h1 : q.1 ∈ p.derived.map (·.1) := List.mem_map.mpr ⟨q, h, rfl⟩
    rw [decide_eq_true h1, decide_eq_false fun h2 => dj _ h1 _ h2 rfl]
    rfl
  · have h1 : q.1 ∈ p.effects.map (·.1) := List.mem_map.mpr ⟨q, h, rfl⟩
    rw [decide_eq_true h1, decide_eq_false fun h2 => dj _ h2 _ h1 rfl]
    rfl
theorem few0 (d : Str) : (rs0 d).Few 0 := ⟨Nat.le_refl _, Nat.le_refl _, Nat.le_refl _, Nat.le_refl _, Nat.le_refl _⟩
section
variable {P : Program} {w : World} {K : PySem.W.Frag} {mg : Str → Option Value} {base : Heap}
def spRecParts (K : PySem.W.Frag) (C : Addr) : Sp := fun vs H Q _ => ∃ (A : RA) (dx : Addr) (st : RS) (dv : Bool), vs = [.ref A.ra] ∧ H A.ra = some (.ins C dx (A.fldsV (wordV dv st.given))) ∧
  H A.pn = some (.dK (kv st.noted)) ∧ H A.pp = some (.dK (kv st.peeked)) ∧ H A.pd = some (.lst (st.said.map V.str)) ∧ (∃ xs, H A.pw = some (.lst xs) ∧ TnAll K H xs (st.written.map wrD)) ∧
  ∀ (a : Addr) H', Same H H' → H a = none → AnsAt K H' a st dv → Q (.ref a) H'
theorem ok_parts_of (T : Tops w K mg) : FnOk P w K mg base CX0 1 T.a_Record_parts T.d_Record_parts ["self"] (spRecParts K T.c_TrueRun) := by
  refine T.F_Record_parts.ok sc_Record_parts (fun vs H Q E h => ?_) (fun cdv A outer s H vs Q E hr h => ?_)
  · obtain ⟨A', dx, st, dv, rfl, _⟩ := h
    rfl
  obtain ⟨A', dx2, st, dv, rfl, e2, hn, hp, hsd, ⟨xw, w1, w2⟩, q⟩ := h
  refine ⟨_, (pss_one (ps_ret (pe_disp (pps_cons pe_str (pe_tupleItems rfl (pe_fld (pv 0) rfl) rfl T.z_tuple) (pps_cons pe_str (pe_tupleItems rfl (pe_fld (pv 0) rfl) rfl T.z_tuple) (pps_cons pe_str (pe_callTy call_tuple_of rfl T.z_tuple (by decide +kernel) (pa_cons (pe_fld (pv 0) rfl) pa_nil)) (pps_cons pe_str (pe_callTy call_tuple_of rfl T.z_tuple (by decide +kernel) (pa_cons (pe_fld (pv 0) rfl) pa_nil)) (pps_cons pe_str (pe_fld (pv 0) rfl) pps_nil))))) (by rfl) (by rfl) (fun z => by cases z) (by decide)))), ?_⟩
  refine fun pd hpd => ?_
  have s5 : Same H (upd H pd (.dK [])) := Same.new hpd _
  have p5 : upd H pd (.dK []) pd = some (.dK []) := upd_same
  generalize upd H pd (.dK []) = H5 at s5 p5
  refine ⟨_, rfl, A'.ra, _, dx2, _, _, rfl, s5 _ _ e2, T.l_TrueRun, T.n_TrueRun_noted, fv_noted .., A'.pn, _, rfl, s5 _ _ hn, fun H6 vn ts6 s6 _ v6 q6 => ?_⟩
  have s46 := s5.trans s6
  have t6 : Tn K H6 (.ref vn) (envD st.noted) := .tup (SqT.of v6) (pairs_tn q6)
  refine ⟨_, rfl, A'.ra, _, dx2, _, _, rfl, s46 _ _ e2, T.l_TrueRun, T.n_TrueRun_peeked, fv_peeked .., A'.pp, _, rfl, s46 _ _ hp, fun H7 vp ts7 s7 _ v7 q7 => ?_⟩
  have s47 := s46.trans s7
  have t7 : Tn K H7 (.ref vp) (envD st.peeked) := .tup (SqT.of v7) (pairs_tn q7)
  refine ⟨_, rfl, A'.ra, _, dx2, _, _, rfl, s47 _ _ e2, T.l_TrueRun, T.n_TrueRun_said, fv_said .., A'.pd, _, rfl, .inl ⟨SqL.of (s47 _ _ hsd), fun vs hvs => ?_⟩⟩
  have s8 : Same H7 (upd H7 vs (.tup (st.said.map V.str))) := Same.new hvs _
  have t8 : Tn K (upd H7 vs (.tup (st.said.map V.str))) (.ref vs) (strsD st.said) := .tup (SqT.of upd_same) (TnAll.strs _)
  generalize upd H7 vs (.tup (st.said.map V.str)) = H8 at s8 t8
  have s48 := s47.trans s8
  refine ⟨_, rfl, A'.ra, _, dx2, _, _, rfl, s48 _ _ e2, T.l_TrueRun, T.n_TrueRun_written, fv_written .., A'.pw, _, rfl, .inl ⟨SqL.of (s48 _ _ w1), fun vw hvw => ?_⟩⟩
  have s9 : Same H8 (upd H8 vw (.tup xw)) := Same.new hvw _
  have t9 : Tn K (upd H8 vw (.tup xw)) (.ref vw) (envD st.written) := .tup (SqT.of upd_same) (TnAll.keep (TK.of_same (s48.trans s9)) w2)
  generalize upd H8 vw (.tup xw) = H9 at s9 t9
  have s49 := s48.trans s9
  refine ⟨_, rfl, A'.ra, _, dx2, _, _, rfl, s49 _ _ e2, T.l_TrueRun, T.n_TrueRun_given, fv_given .., ?_⟩
  have s59 := ((s6.trans s7).trans s8).trans s9
  have p9 : H9 pd = some (.dK []) := s59 _ _ p5
  refine ⟨p9, ansK vn vp vs vw (wordV dv st.given), rfl, by show 5 ≤ 15; decide, ?_⟩
  rw [ansK_merge]
  have s0 : Same H (upd H9 pd (.dK (ansK vn vp vs vw (wordV dv st.given)))) := own_same s49 hpd
  have tk : ∀ {X : Hp}, Same X H9 → TK X (upd H9 pd (.dK (ansK vn vp vs vw (wordV dv st.given)))) := fun sx => (TK.of_same sx).trans (TK.upd (by rw [p9]; trivial))
  exact q pd _ s0 hpd ⟨vn, vp, vs, vw, upd_same, Tn.keep (tk ((s7.trans s8).trans s9)) t6, Tn.keep (tk (s8.trans s9)) t7, Tn.keep (tk s9) t8, Tn.keep (tk (Same.refl _)) t9⟩
end
end K68
namespace K68
open PySem PySem.Spec PyProof.Rows L2 Td
/-- data that are no words of the sources -/
def badD (p : PP) : PyData → Bool
  | .tuple ds => !(decide (ds.length = p.sources.length) && ds.all fun x => (p.words.map PyData.str).any fun z => PyData.eqv z x)
  | _ => true
structure BadW (K : PySem.W.Frag) (H : Hp) (p : PP) (v : V) (d : PyData) : Prop where
  dp : Dp K H v d
  sh : SeqAt.shaped d = true
  bad : badD p d = true
  few : ∀ ds, d = .tuple ds → ds.length ≤ 100 ∧ ∀ x ∈ ds, SeqAt.shaped x = true
  dep : d.depth ≤ 8
theorem BadW.same {K : PySem.W.Frag} {H H' : Hp} {p : PP} {v : V} {d : PyData} (h : BadW K H p v d) (s : Same H H') : BadW K H' p v d := ⟨Dp.same s h.dp, h.sh, h.bad, h.few, h.dep⟩
theorem words_shaped {p : PP} {m : Nat} (ok : p.Ok m) : SeqAt.shaped (strsD p.words) = true := by
  unfold SeqAt.shaped
  rw [Bool.and_eq_true]
  have h : ∀ z ∈ p.words, isNm z = true := ok.wn.good
  refine ⟨?_, decide_eq_true ?_⟩
  · unfold strsD; simp only [PyData.canLay0, strs_lay p.words h]
  · have := strs_deep p.words
    unfold strsD; simp only [PyData.depth]; omega
section
variable {P : Program} {w : World} {K : PySem.W.Frag} {mg : Str → Option Value} {base : Heap}
theorem ok_InvalidStart (T : Tops w K mg) : FnOk P w K mg base CX0 1 T.a_InvalidStart_init T.d_InvalidStart_init ["self", "words"] (spExc K T.c_InvalidStart "words") := by
  refine T.F_InvalidStart_init.ok sc_InvalidStart_init (fun vs H Q E h => ?_) (fun cdv A outer s H vs Q E hr h => ?_)
  · obtain ⟨a, y, rfl, _⟩ := h
    rfl
  obtain ⟨a, y, rfl, ha, q⟩ := h
  exact ⟨_, (pss_one (ps_ost (pv 0) (pv 1))), _, rfl, _, rfl, a, T.c_InvalidStart, rfl, T.x_InvalidStart, T.n_InvalidStart_words, .inl ⟨ha, fun dx h1 h2 => q dx _ h1 h2 rfl⟩⟩
def spIsBad (K : PySem.W.Frag) (CP : Addr) : Sp := fun vs H Q _ => ∃ (pa : Addr) (v : V) (p : PP) (m : Nat) (d : PyData), vs = [.ref pa, v] ∧ ProgAt K H CP pa p ∧ p.Ok m ∧ BadW K H p v d ∧ ∀ H', Same H H' → Q (.bl false) H'
theorem ok_is_bad (T : Tops w K mg) : FnOk P w K mg base CX0 1 T.a_is_start T.d_is_start ["program", "words"] (spIsBad K T.c_Program) := by
  refine T.F_is_start.ok sc_is_start (fun vs H Q E h => ?_) (fun cdv A outer s H vs Q E hr h => ?_)
  · obtain ⟨pa, v, p, m, d, rfl, _⟩ := h
    rfl
  obtain ⟨pa, v, p, m, d, rfl, hP, ok, hB, q⟩ := h
  obtain ⟨dx, aw, as, vd, ve, ⟨dn, en, e, hdn, hen⟩, h1, h2, h3, h4⟩ := hP.ex
  have s4 := ok.s4
  refine ⟨_, (pss_cons (ps_if (PW.pt (pw_or (pt_not (pt_val (pe_callB call_isi rfl T.z_isinstance (by decide +kernel) (pa_cons (pv 1) (pa_cons (pe_bltn (v := .ty "tuple") rfl T.z_tuple (by decide +kernel) rfl) pa_nil))))) (pw_or1 (pt_cmpR op_ne (pe_callB call_len rfl T.z_len PySem.boot_len (pa_cons (pv 1) pa_nil)) (pe_callB call_len rfl T.z_len PySem.boot_len (pa_cons (pe_fld (pv 0) rfl) pa_nil)) (nomark _))))) (pss_one (ps_ret pe_bl)) pss_nil)
    (pss_one (ps_ret (pe_callB (cr_all rfl) rfl T.z_all (by decide +kernel) (pa_cons (pe_lc (own := [("word", 2)]) (g := gName 2) (tt := tYes) (te := tOp (rInDT K false) (tVar 2) (tFld K (tVar 0) "words")) rfl sc_is_start.nd (pi_tup (pv 1)) (blkOk_by (own := [("word", 2)]) (N := N_is_start) (sc := defScope s_is_start) (by decide +kernel)) (fun _ _ _ _ _ => (pg_name (i := 2) sc_is_start.nd rfl (Or.inl rfl))) (fun _ _ _ _ _ => pts_nil) (fun _ _ _ _ _ => (pe_cmpR (op_inDT (units65 hr)) (pv 2) (pe_fld (pv 0) rfl) (by rfl)))) pa_nil))))), ?_⟩
  have hW := hB.dp
  have hb := hB.bad
  have hf := hB.few
  by_cases ht : isTup d = true
  · obtain ⟨ds, rfl⟩ := isTup_ex ht
    obtain ⟨wa, xs, rfl, hT, hD⟩ := Dp.tup_inv hW
    obtain ⟨few, shp⟩ := hf ds rfl
    have hlen := Td.DpAll.length hD
    refine ⟨_, rfl, .ref wa, .ty "tuple", .type "tuple", .type "tuple", true, rfl, .ty _, ty_tup hT, kit_ty (by decide +kernel), true, rfl, iteF ?_⟩
    refine ⟨_, rfl, .ref wa, _, rfl, .inr ⟨_, hT, rfl⟩, _, rfl, pa, _, dx, _, _, rfl, e, T.l_Program, T.n_Program_sources, progF_sources .., .ref as, _, rfl, .inr ⟨_, h2, rfl⟩, rfl, _, rfl, ?_⟩
    by_cases hl : xs.length = p.sources.length
    · refine if_false_of (by rw [List.length_map, hl]; show (!decide (V.int (p.sources.length : Nat) = V.int (p.sources.length : Nat))) = false; rw [decide_eq_true rfl]; rfl) ?_
      have hno : (ds.all fun x => (p.words.map PyData.str).any fun z => PyData.eqv z x) = false := by
        have hb2 : (!(decide (ds.length = p.sources.length) && ds.all fun x => (p.words.map PyData.str).any fun z => PyData.eqv z x)) = true := hb
        rw [decide_eq_true (hlen.symm.trans hl)] at hb2
        simpa using hb2
      refine ⟨_, rfl, wa, rfl, ⟨_, hT⟩, fun D hD' => lc_tup (K := K) (a := wa) (xs := xs) (fun i H' => Same H H' ∧ H' D = some (.lst (((ds.take i).map fun x => (p.words.map PyData.str).any fun z => PyData.eqv z x).map V.bl)))
        ⟨Same.new hD' _, upd_same⟩ (fun i H' _ ⟨hs, _⟩ => SqT.same hs hT) ?_ ?_⟩
      · rintro i x H' hx ⟨hs, hb⟩
        obtain ⟨d, hd, hxd⟩ := Td.DpAll.get hD hx
        have hi : i < ds.length := (List.getElem?_eq_some_iff.mp hd).1
        refine ⟨rfl, ?_⟩
        refine tYes_of ?_
        refine ⟨_, rfl, _, rfl, pa, _, dx, _, _, rfl, hs _ _ e, T.l_Program, T.n_Program_words, progF_words .., d, p.words.map PyData.str, Dp.same hs hxd, .tup (SqT.same hs h1) (DpAll.strs _), shp d (List.mem_of_getElem? hd), words_shaped ok, ?_⟩
        refine ⟨_, hb, small1000 (by rw [List.length_map, List.length_map, List.length_take]; omega), ?_, ?_⟩
        · intro b o e
          rw [upd_ne (ne_of_none e hD')]
          exact hs b o e
        · rw [upd_same, take_more hd, List.map_append, List.map_append]; rfl
      · rintro H' ⟨hs, hb⟩
        rw [hlen, List.take_length] at hb
        refine ⟨D, _, rfl, SqL.of hb, ?_⟩
        have e2 : ((ds.map fun x => (p.words.map PyData.str).any fun z => PyData.eqv z x).all id) = false := by rw [List.all_map]; exact hno
        rw [e2]
        exact q H' hs
    · refine if_true_of (by rw [List.length_map]; show (!decide (V.int (xs.length : Nat) = V.int (p.sources.length : Nat))) = true; rw [decide_eq_false (fun z => hl (by injection z with z; omega))]; rfl) ?_
      exact q H (Same.refl _)
  · refine ⟨_, rfl, v, .ty "tuple", .type (tyD d), .type "tuple", _, rfl, .ty _, ty_data hW, kit_tuple d, _, rfl, ?_⟩
    have ht' : isTup d = false := by simpa using ht
    rw [ht']
    exact iteT (q H (Same.refl _))
end
section
variable {P : Program} {w : World} {K : PySem.W.Frag} {mg : Str → Option Value} {base : Heap} {k : Nat} {f : Addr} {fd : FuncData} {ps : List Str} {s1 s2 : Sp} {CXq : CXT}
/-- a def that lets nothing out, where one may -/
theorem calm_in (F : FnOk P w K mg base CX0 k f fd ps s1) : FnOk P w K mg base (L2.CX P w) k f fd ps s1 :=
  ⟨F.len, fun A outer s H args us vs Q E hr he hb hv hs => codeAny_mono (F.run A outer s H args us vs Q E hr he hb hv hs) fun r s' hq => by
    cases r with
    | error e => exact False.elim hq
    | ok fl => cases fl <;> exact hq⟩
/-- two promises of one def -/
theorem both (F : FnOk P w K mg base CXq k f fd ps s1) (G : FnOk P w K mg base CXq k f fd ps s2) : FnOk P w K mg base CXq k f fd ps (fun vs H Q E => s1 vs H Q E ∨ s2 vs H Q E) :=
  ⟨fun vs H Q E h => h.elim (F.len vs H Q E) (G.len vs H Q E), fun A outer s H args us vs Q E hr he hb hv hs => hs.elim (F.run A outer s H args us vs Q E hr he hb hv) (G.run A outer s H args us vs Q E hr he hb hv)⟩
end
def spCheckBad (K : PySem.W.Frag) (CP CI : Addr) : Sp := fun vs H Q E => ∃ (pa : Addr) (v : V) (p : PP) (m : Nat) (d : PyData), vs = [.ref pa, v] ∧ ProgAt K H CP pa p ∧ p.Ok m ∧ BadW K H p v d ∧ Rz CI "words" v H E
def spCheck (K : PySem.W.Frag) (CP CI : Addr) : Sp := fun vs H Q E => spStart K CP vs H Q E ∨ spCheckBad K CP CI vs H Q E
section
variable {P : Program} {w : World} {K : PySem.W.Frag} {mg : Str → Option Value} {base : Heap}
theorem ok_check_bad (T : Tops w K mg) (G_is_start : FnOk P w K mg base CX0 1 T.a_is_start T.d_is_start ["program", "words"] (spIsBad K T.c_Program))
    (G_InvalidStart_init : FnOk P w K mg base CX0 1 T.a_InvalidStart_init T.d_InvalidStart_init ["self", "words"] (spExc K T.c_InvalidStart "words")) :
    FnOk P w K mg base (L2.CX P w) 3 T.a_check_start T.d_check_start ["program", "words"] (spCheckBad K T.c_Program T.c_InvalidStart) := by
  refine T.F_check_start.okX sc_check_start (fun vs H Q E h => ?_) (fun cdv A outer s H vs Q E hr h => ?_)
  · obtain ⟨pa, v, p, m, d, rfl, _⟩ := h
    rfl
  obtain ⟨pa, v, p, m, d, rfl, hP, ok, hB, r⟩ := h
  refine ⟨_, (pss_one (ps_if (pt_not (pt_val (pe_call G_is_start (hr.mono (by omega)) rfl T.m_is_start T.F_is_start.kp T.b_is_start .nil pass0 (pa_cons (pv 0) (pa_cons (pv 1) pa_nil))))) (pss_one (ps_raise rfl (takes_of rfl rfl rfl rfl) (pmk_oex T.x_InvalidStart T.xi_InvalidStart T.xt_InvalidStart G_InvalidStart_init (hr.mono (by omega)) T.b_InvalidStart_init .nil pass0 rfl T.m_InvalidStart (pa_cons (pv 1) pa_nil)))) pss_nil)), ?_⟩
  refine ⟨_, rfl, _, rfl, pa, v, p, m, d, rfl, hP, ok, hB, fun H' s' => ⟨_, rfl, if_true_of rfl ?_⟩⟩
  exact ⟨_, rfl, made_one (r.later s')⟩
end
section
variable {P : Program} {w : World} {K : PySem.W.Frag} {mg : Str → Option Value} {base : Heap}
theorem ok_InvalidDeed (T : Tops w K mg) : FnOk P w K mg base CX0 1 T.a_InvalidDeed_init T.d_InvalidDeed_init ["self", "deed"] (spExc K T.c_InvalidDeed "deed") := by
  refine T.F_InvalidDeed_init.ok sc_InvalidDeed_init (fun vs H Q E h => ?_) (fun cdv A outer s H vs Q E hr h => ?_)
  · obtain ⟨a, y, rfl, _⟩ := h
    rfl
  obtain ⟨a, y, rfl, ha, q⟩ := h
  exact ⟨_, (pss_one (ps_ost (pv 0) (pv 1))), _, rfl, _, rfl, a, T.c_InvalidDeed, rfl, T.x_InvalidDeed, T.n_InvalidDeed_deed, .inl ⟨ha, fun dx h1 h2 => q dx _ h1 h2 rfl⟩⟩
end
end K68
namespace K68
open PySem PySem.Spec PyProof.Rows L2 Td
theorem strOk_app {x y : Str} (hx : PyData.strOk x = true) (hy : PyData.strOk y = true) : PyData.strOk (x ++ y) = true := by
  unfold PyData.strOk at *
  show (x.cps ++ y.cps).all _ = true
  rw [Array.all_append, hx, hy]
  rfl
theorem sm_of_str {k : Nat} {z : Str} (h : z.length ≤ 100) (ho : PyData.strOk z = true) : smB (k + 1) (.str z) = true := by
  simp only [smB, ho, decide_eq_true h, Bool.and_true]
theorem sm_of_nm {k : Nat} {z : Str} (h : isNm z = true) : smB (k + 1) (.str z) = true := sm_of_str (by have := (isNm_len h).2.1; omega) (nm_ok h)
theorem sm_of_list {k : Nat} {ds : List PyData} (hl : ds.length ≤ 100) (h : ∀ x ∈ ds, smB k x = true) : smB (k + 1) (.list ds) = true := by
  simp only [smB, Bool.and_eq_true, List.all_eq_true, decide_eq_true_eq]
  exact ⟨hl, h⟩
def De.items : De → List PyData
  | .rd c => [.str "read", .str c]
  | .wr s w => [.str "write", .str s, .str w]
  | .bt ps => [.str "batch", .tuple (ps.map wpD)]
theorem De.data_items (d : De) : d.data = .tuple d.items := by cases d <;> rfl
theorem kw_len : ("read" : Str).length ≤ 100 ∧ ("write" : Str).length ≤ 100 ∧ ("batch" : Str).length ≤ 100 ∧ ("look" : Str).length ≤ 100 := by decide +kernel
theorem kw_strOk : PyData.strOk ("read" : Str) = true ∧ PyData.strOk ("write" : Str) = true ∧ PyData.strOk ("batch" : Str) = true ∧ PyData.strOk ("look" : Str) = true := by decide +kernel
theorem sm_two {k : Nat} {a b : PyData} (ha : smB k a = true) (hb : smB k b = true) : smB (k + 1) (.tuple [a, b]) = true := sm_of_tup (by show 2 ≤ 100; decide) fun x hx => by
  simp only [List.mem_cons, List.not_mem_nil, or_false] at hx
  rcases hx with rfl | rfl
  · exact ha
  · exact hb
theorem sm_wpD {p : PP} {m : Nat} (ok : p.Ok m) {q : Str × Str} (h : q.1 ∈ p.sources ∧ q.2 ∈ p.words) (k : Nat) : smB (k + 2) (wpD q) = true := sm_two (sm_of_nm (O_sources ok _ h.1)) (sm_of_nm (O_words ok _ h.2))
theorem sm_items {p : PP} {m : Nat} (ok : p.Ok m) : ∀ {d : De}, d.Of p → ∀ (k : Nat), ∀ x ∈ d.items, smB (k + 3) x = true
  | .rd c, h, k, x, hx => by
    simp only [De.items, List.mem_cons, List.not_mem_nil, or_false] at hx
    rcases hx with rfl | rfl
    · exact sm_of_str kw_len.1 kw_strOk.1
    · exact sm_of_nm (O_cells ok _ h)
  | .wr s w, h, k, x, hx => by
    simp only [De.items, List.mem_cons, List.not_mem_nil, or_false] at hx
    rcases hx with rfl | rfl | rfl
    · exact sm_of_str kw_len.2.1 kw_strOk.2.1
    · exact sm_of_nm (O_sources ok _ h.1)
    · exact sm_of_nm (O_words ok _ h.2)
  | .bt ps, h, k, x, hx => by
    simp only [De.items, List.mem_cons, List.not_mem_nil, or_false] at hx
    rcases hx with rfl | rfl
    · exact sm_of_str kw_len.2.2.1 kw_strOk.2.2.1
    · refine sm_of_tup (by rw [List.length_map]; have := h.2.1; omega) fun y hy => ?_
      obtain ⟨q, hq, rfl⟩ := List.mem_map.mp hy
      exact sm_wpD ok (h.2.2.1 q hq) k
theorem items_len (d : De) : 2 ≤ d.items.length ∧ d.items.length ≤ 3 := by cases d <;> exact ⟨by simp [De.items], by simp [De.items]⟩
theorem inStr_mem {L : List Str} {z : Str} (h : z ∈ L) : inStrs L (.str z) = true := decide_eq_true h
theorem isW {p : PP} {s w : Str} (hs : s ∈ p.sources) (hw : w ∈ p.words) : isWriteD p (.tuple [.str s, .str w]) = true := by
  show (inStrs p.sources (.str s) && inStrs p.words (.str w)) = true
  rw [inStr_mem hs, inStr_mem hw]
  rfl
theorem goB {p : PP} : ∀ (ps : List (Str × Str)) (seen : List Str), (∀ q ∈ ps, q.1 ∈ p.sources ∧ q.2 ∈ p.words) → (ps.map (·.1)).Nodup → (∀ q ∈ ps, q.1 ∉ seen) → goBatch p seen (ps.map wpD) = true
  | [], _, _, _, _ => rfl
  | q :: ps, seen, hm, nd, hs => by
    rw [List.map_cons, List.nodup_cons] at nd
    have h1 := hm q List.mem_cons_self
    have h2 := hs q List.mem_cons_self
    show (isWriteD p (wpD q) && (!decide (q.1 ∈ seen) && goBatch p (seen ++ [q.1]) (ps.map wpD))) = true
    rw [show isWriteD p (wpD q) = true from isW h1.1 h1.2, decide_eq_false h2, goB ps (seen ++ [q.1]) (fun x hx => hm x (List.mem_cons_of_mem _ hx)) nd.2 fun x hx hxs => ?_]
    · rfl
    · rcases List.mem_append.mp hxs with h | h
      · exact hs x (List.mem_cons_of_mem _ hx) h
      · exact nd.1 (List.mem_singleton.mp h ▸ List.mem_map_of_mem hx)
theorem isB {p : PP} {ps : List (Str × Str)} (h0 : ps ≠ []) (hm : ∀ q ∈ ps, q.1 ∈ p.sources ∧ q.2 ∈ p.words) (nd : (ps.map (·.1)).Nodup) : isBatchD p (.tuple (ps.map wpD)) = true := by
  show (!(ps.map wpD).isEmpty && goBatch p [] (ps.map wpD)) = true
  rw [goB ps [] hm nd (fun q _ => by simp)]
  cases ps with
  | nil => exact absurd rfl h0
  | cons q ps => rfl
theorem isDeed_eq (p : PP) (t : Str) (x : PyData) (r : List PyData) : isDeedD p (.tuple (.str t :: x :: r)) = (if t = "write" then isWriteD p (.tuple (x :: r)) else if r.isEmpty = false then false else if t = "batch" then isBatchD p x else if t = "read" then inStrs p.cells x else false) := rfl
theorem good_deed {p : PP} : ∀ {d : De}, d.Of p → isDeedD p d.data = true
  | .rd c, h => by
    show isDeedD p (.tuple (.str "read" :: .str c :: [])) = true
    rw [isDeed_eq, if_neg (by decide +kernel), if_neg (by decide), if_neg (by decide +kernel), if_pos rfl]
    exact inStr_mem h
  | .wr s w, h => by
    show isDeedD p (.tuple (.str "write" :: .str s :: [.str w])) = true
    rw [isDeed_eq, if_pos rfl]
    exact isW h.1 h.2
  | .bt ps, h => by
    show isDeedD p (.tuple (.str "batch" :: .tuple (ps.map wpD) :: [])) = true
    rw [isDeed_eq, if_neg (by decide +kernel), if_neg (by decide), if_pos rfl]
    exact isB h.1 h.2.2.1 h.2.2.2
theorem src_nodup {p : PP} {m : Nat} (ok : p.Ok m) : p.sources.Nodup := by
  have := ok.nn.nd
  unfold PP.names at this
  exact (List.nodup_append.mp (List.nodup_append.mp this).1).1
theorem deed_sm {p : PP} {m : Nat} (ok : p.Ok m) {d : De} (h : d.Of p) : smB 12 d.data = true := by
  rw [d.data_items]
  exact sm_of_tup (by have := (items_len d).2; omega) (sm_items ok h 8)
theorem shape_of {d : PyData} (h : d.canLay0 = true) (k : d.depth ≤ 60) : SeqAt.shaped d = true := by
  unfold SeqAt.shaped
  rw [h, Bool.true_and]
  exact decide_eq_true (by omega)
theorem ne_same {K : PySem.W.Frag} {H : Hp} {x y : V} {d : PyData} {Q : VK} (h1 : Dp K H x d) (h2 : Dp K H y d) (hc : d.canLay0 = true) (hd : d.depth ≤ 60) (q : Q (.bl false) H) : rNeD K x y H Q :=
  ⟨d, d, h1, h2, shape_of hc hd, shape_of hc hd, by rw [SeqAt.eqv_refl d hc]; exact q⟩
theorem eq_same {K : PySem.W.Frag} {H : Hp} {x y : V} {d : PyData} {Q : VK} (h1 : Dp K H x d) (h2 : Dp K H y d) (hc : d.canLay0 = true) (hd : d.depth ≤ 60) (q : Q (.bl true) H) : rEqD K x y H Q :=
  ⟨d, d, h1, h2, shape_of hc hd, shape_of hc hd, by rw [SeqAt.eqv_refl d hc]; exact q⟩
end K68
namespace K68
open PySem PySem.Spec PyProof.Rows L2 Td
/-- the law's own run of a derived body -/
structure GvAt (H0 H : Hp) (ps : Addr) (sl : Td.Env) (n : Nat) : Prop where
  same : Same H0 H
  fp : H0 ps = none
  sa : H ps = some (.dK (kv sl))
  few : sl.length ≤ n
theorem GvAt.mono {H0 H : Hp} {ps : Addr} {sl : Td.Env} {n n' : Nat} (h : GvAt H0 H ps sl n) (l : n ≤ n') : GvAt H0 H ps sl n' := ⟨h.same, h.fp, h.sa, Nat.le_trans h.few l⟩
theorem GvAt.put {H0 H : Hp} {ps : Addr} {sl : Td.Env} {n : Nat} (h : GvAt H0 H ps sl n) (k v : Str) : GvAt H0 (upd H ps (.dK (kv (putE sl k v)))) ps (putE sl k v) (n + 1) :=
  ⟨own_same h.same h.fp, h.fp, upd_same, Nat.le_trans (putE_len sl k v) (Nat.succ_le_succ h.few)⟩
def gaveV (x : RS × Bool) : V := if x.2 then .str x.1.given else .non
theorem slot_get {d s : Str} {st : RS} : (valV (kv st.slots) (.inr s : Key)).getD (.str d) = .str (st.word d s) := by
  rw [Td.kv_get]
  unfold RS.word
  cases getE st.slots s <;> rfl
mutual
theorem notGave_R (kn : Str → Str) (d : Str) : ∀ (r : Td.Row) (st : RS), (runR kn d r st).2 = false → (runR kn d r st).1.given = st.given
  | .rd pk a s, st, _ => by simp only [runR]
  | .put s u, st, _ => by simp only [runR]
  | .give s, st, h => by simp [runR] at h
  | .say s, st, _ => by simp only [runR]
  | .wr a s, st, _ => by simp only [runR]
  | .ite s u y n, st, h => by
    simp only [runR] at h ⊢
    split
    · rename_i e
      rw [if_pos e] at h
      exact notGave_Rs kn d y st h
    · rename_i e
      rw [if_neg e] at h
      exact notGave_Rs kn d n st h
theorem notGave_Rs (kn : Str → Str) (d : Str) : ∀ (rs : List Td.Row) (st : RS), (runRs kn d rs st).2 = false → (runRs kn d rs st).1.given = st.given
  | [], st, _ => by simp only [runRs]
  | r :: rs, st, h => by
    by_cases hb : (runR kn d r st).2 = true
    · rw [runRs_yes _ hb] at h; cases h
    · rw [runRs_no _ hb] at h ⊢
      rw [notGave_Rs kn d rs _ h]
      exact notGave_R kn d r st (by simpa using hb)
end
def spGive (K : PySem.W.Frag) (k : Nat) : Sp := fun vs H Q _ => ∃ (pv v : V) (ps td : Addr) (p : PP) (m : Nat) (H0 : Hp) (st : RS) (kn : Td.Env) (rs : List Td.Row) (n : Nat) (S : Sc) (dep : Nat), vs = [pv, v, .ref td, .ref ps] ∧ Tn K H0 pv p.data ∧ p.Ok m ∧ GvAt H0 H ps st.slots n ∧ H0 td = some (.dK (kv kn)) ∧
  Dp K H0 v (.tuple (rowsD rs)) ∧ okRs S dep rs ∧ S.eff = false ∧ (∀ c ∈ S.readable, (getE kn c).isSome = true) ∧ n + cnts rs ≤ 500 ∧ dep ≤ 4 ∧ 5 ≤ dep + k ∧
  ∀ H', GvAt H0 H' ps (runRs (knF kn) (d0 p) rs st).1.slots (n + cnts rs) → Q (gaveV (runRs (knF kn) (d0 p) rs st)) H'
section
variable {P : Program} {w : World} {K : PySem.W.Frag} {mg : Str → Option Value} {base : Heap}
theorem ok_give1 (T : Tops w K mg) {n : Nat} (G__law_give : FnOk P w K mg base CX0 n T.a__law_give T.d__law_give ["_law_parts_here", "_law_rows_here", "_law_table", "_law_slots"] (spGive K n)) :
    FnOk P w K mg base CX0 (n + 1) T.a__law_give T.d__law_give ["_law_parts_here", "_law_rows_here", "_law_table", "_law_slots"] (spGive K (n + 1)) := by
  refine T.F__law_give.ok sc_law_give (fun vs H Q E h => ?_) (fun cdv AR outer s H vs Q E hr h => ?_)
  · obtain ⟨pv, v, ps, td, p, m, H0, st, kn, rs, m', S, dep, rfl, _⟩ := h
    rfl
  obtain ⟨pv, v, ps, td, p, pm, H0, st, kn, rs, m, S, dep, rfl, hPd, pok, hO, hK, hD, ok, heff, hrd, hm, hdep, hn, q⟩ := h
  obtain ⟨a, xs, rfl, hS, hl, hx⟩ := rows_at hD
  obtain ⟨pa, aw, as, vd, ve, rfl, hP, h1, h2, h3, h4⟩ := parts_at hPd
  refine ⟨_, (pss_cons (ps_set (i := 4) sc_law_give.nd rfl (Or.inl rfl) (pe_ix ix_tup (pe_ix ix_tup (pv 0) pe_int (fun _ _ => rfl)) pe_int (fun _ _ => rfl)))
    (pss_cons (ps_for PassesOwn.never rfl (pi_tup (pv 1)) (pg_name (i := 5) sc_law_give.nd rfl (Or.inl rfl)) (pss_one (ps_if (pt_cmpR op_eq (pe_ix ix_tup (pv 5) pe_int (fun _ _ => rfl)) pe_str (nomark _)) (pss_one (ps_dput (hu_of hr) (pv 3) (pe_ix ix_tup (pv 5) pe_int (fun _ _ => rfl)) (pe_dget (hu_of hr) (pv 2) (pe_ix ix_tup (pv 5) pe_int (fun _ _ => rfl)) (fun _ _ => rfl)) rfl)) (pss_one (ps_if (pt_cmpR op_eq (pe_ix ix_tup (pv 5) pe_int (fun _ _ => rfl)) pe_str (nomark _)) (pss_one (ps_dput (hu_of hr) (pv 3) (pe_ix ix_tup (pv 5) pe_int (fun _ _ => rfl)) (pe_ix ix_tup (pv 5) pe_int (fun _ _ => rfl)) rfl)) (pss_one (ps_if (pt_cmpR op_eq (pe_ix ix_tup (pv 5) pe_int (fun _ _ => rfl)) pe_str (nomark _)) (pss_one (ps_ret (pe_dget2 (hu_of hr) (pv 3) (pe_ix ix_tup (pv 5) pe_int (fun _ _ => rfl)) (pv 4) ⟨rfl, rfl, rfl, rfl⟩))) (pss_cons (ps_set (i := 6) sc_law_give.nd rfl (Or.inl rfl) (pe_ifExp (pt_cmpR op_eq (pe_dget2 (hu_of hr) (pv 3) (pe_ix ix_tup (pv 5) pe_int (fun _ _ => rfl)) (pv 4) ⟨rfl, rfl, rfl, rfl⟩) (pe_ix ix_tup (pv 5) pe_int (fun _ _ => rfl)) (nomark _)) (pe_ix ix_tup (pv 5) pe_int (fun _ _ => rfl)) (pe_ix ix_tup (pv 5) pe_int (fun _ _ => rfl))))
    (pss_cons (ps_set (i := 7) sc_law_give.nd rfl (Or.inl rfl) (pe_call G__law_give (hr.mono (by omega)) rfl T.m__law_give T.F__law_give.kp T.b__law_give .nil pass0 (pa_cons (pv 0) (pa_cons (pv 6) (pa_cons (pv 2) (pa_cons (pv 3) pa_nil))))))
    (pss_one (ps_if (pt_cmpR op_notN (pv 7) pe_non (nomark _)) (pss_one (ps_ret (pv 7))) pss_nil)))))))))))
    (pss_one (ps_ret pe_non)))), ?_⟩
  have sH := hO.same
  refine ⟨_, rfl, pa, _, 0, _, rfl, rfl, SqT.same sH hP, rfl, aw, _, 0, _, rfl, rfl, SqT.same sH h1, d0_at pok, ?_⟩
  refine ⟨_, rfl, a, rfl, ⟨_, SqT.same sH hS⟩, for_tup (K := K) (a := a) (xs := xs) (fun i σ H' => ∃ (v5 v6 v7 : Option V), σ = [some (.ref pa), some (.ref a), some (.ref td), some (.ref ps), some (.str (d0 p)), v5, v6, v7] ∧
      GvAt H0 H' ps (runRs (knF kn) (d0 p) (rs.take i) st).1.slots (m + cnts (rs.take i)) ∧ (runRs (knF kn) (d0 p) (rs.take i) st).2 = false)
    ⟨none, none, none, rfl, by simpa [runRs, cnts] using hO, by simp [runRs]⟩ (fun i σ H' _ ⟨_, _, _, _, h, _⟩ => SqT.same h.same hS) ?_ ?_⟩
  · rintro i x σ H1 hi ⟨v5, v6, v7, rfl, hO1, hf⟩
    obtain ⟨r, hr2, hDr⟩ := hx i x hi
    have okr := okRs_get ok hr2
    have hcn : Td.cnt r + cnts (rs.take i) ≤ cnts rs := cnts_get hr2
    have nxt := runRs_next (kn := knF kn) (d := d0 p) hr2 hf
    have stop := runRs_stop (kn := knF kn) (d := d0 p) hr2 hf
    have ct : cnts (rs.take (i + 1)) = cnts (rs.take i) + Td.cnt r := cnts_take hr2
    generalize (runRs (knF kn) (d0 p) (rs.take i) st).1 = st1 at hO1 nxt stop
    generalize hci : cnts (rs.take i) = ci at hO1 ct hcn
    have hsl := hO1.few
    have hrp := cnt_pos r
    cases r with
    | say s => unfold okR at okr; rw [heff] at okr; exact nomatch okr.1
    | wr c s => unfold okR at okr; rw [heff] at okr; exact nomatch okr.1
    | rd pk c s =>
      unfold okR at okr
      rw [heff] at okr
      cases pk with
      | true => exact nomatch okr.1 rfl
      | false =>
        obtain ⟨ar, rfl, hSr0⟩ := rd_at hDr
        have hSr := SqT.same hO1.same hSr0
        refine ⟨_, rfl, ar, _, 0, _, rfl, rfl, hSr, rfl, rfl, _, rfl, if_true_of (by decide +kernel) ?_⟩
        have eR : runR (knF kn) (d0 p) (.rd false c s) st1 = ({ st1 with slots := putE st1.slots s (knF kn c), noted := sdE st1.noted c (knF kn c) }, false) := by simp [runR]
        refine ⟨_, rfl, _, rfl, ar, _, 1, _, rfl, rfl, hSr, rfl, td, _, rfl, get_known (hO1.same _ _ hK) (hrd c okr.2.1), _, rfl, _, rfl, ar, _, 2, _, rfl, rfl, hSr, rfl, ps, _, rfl, put_kv hO1.sa (small1000 (by omega)), ?_⟩
        refine ⟨_, _, _, rfl, ?_, by rw [nxt, eR]⟩
        rw [nxt, eR, ct]
        exact (hO1.put s (knF kn c)).mono (by omega)
    | put s u =>
      obtain ⟨ar, rfl, hSr0⟩ := put_at hDr
      have hSr := SqT.same hO1.same hSr0
      refine ⟨_, rfl, ar, _, 0, _, rfl, rfl, hSr, rfl, rfl, _, rfl, if_false_of (by decide +kernel) ?_⟩
      refine ⟨_, rfl, ar, _, 0, _, rfl, rfl, hSr, rfl, rfl, _, rfl, if_true_of (by decide +kernel) ?_⟩
      refine ⟨_, rfl, ar, _, 2, _, rfl, rfl, hSr, rfl, _, rfl, _, rfl, ar, _, 1, _, rfl, rfl, hSr, rfl, ps, _, rfl, put_kv hO1.sa (small1000 (by omega)), ?_⟩
      have eR : runR (knF kn) (d0 p) (.put s u) st1 = ({ st1 with slots := putE st1.slots s u }, false) := by simp only [runR]
      refine ⟨_, _, _, rfl, ?_, by rw [nxt, eR]⟩
      rw [nxt, eR, ct]
      exact (hO1.put s u).mono (by omega)
    | give s =>
      obtain ⟨ar, rfl, hSr0⟩ := give_at hDr
      have hSr := SqT.same hO1.same hSr0
      refine ⟨_, rfl, ar, _, 0, _, rfl, rfl, hSr, rfl, rfl, _, rfl, if_false_of (by decide +kernel) ?_⟩
      refine ⟨_, rfl, ar, _, 0, _, rfl, rfl, hSr, rfl, rfl, _, rfl, if_false_of (by decide +kernel) ?_⟩
      refine ⟨_, rfl, ar, _, 0, _, rfl, rfl, hSr, rfl, rfl, _, rfl, if_true_of (by decide +kernel) ?_⟩
      refine ⟨_, rfl, ps, rfl, .inl ⟨_, .inl hO1.sa⟩, _, rfl, ar, _, 1, _, rfl, rfl, hSr, rfl, _, rfl, _, DGet.k (k := .inr s) hO1.sa, ?_⟩
      have eR : runR (knF kn) (d0 p) (.give s) st1 = ({ st1 with given := st1.word (d0 p) s }, true) := by simp only [runR]
      have st2 := stop (by rw [eR])
      have h := q H1 (by rw [st2, eR]; exact hO1.mono (by omega))
      rw [st2, eR] at h
      show Q ((valV (kv st1.slots) (.inr s : Key)).getD (.str (d0 p))) H1
      rw [slot_get]
      exact h
    | ite sl u y n' =>
      obtain ⟨ar, vy, vn, rfl, hSr0, hyD, hnD⟩ := ite_at hDr
      have hSr := SqT.same hO1.same hSr0
      have ecn : Td.cnt (Td.Row.ite sl u y n') = 1 + cnts y + cnts n' := by unfold Td.cnt; rfl
      unfold okR at okr
      refine ⟨_, rfl, ar, _, 0, _, rfl, rfl, hSr, rfl, rfl, _, rfl, if_false_of (by decide +kernel) ?_⟩
      refine ⟨_, rfl, ar, _, 0, _, rfl, rfl, hSr, rfl, rfl, _, rfl, if_false_of (by decide +kernel) ?_⟩
      refine ⟨_, rfl, ar, _, 0, _, rfl, rfl, hSr, rfl, rfl, _, rfl, if_false_of (by decide +kernel) ?_⟩
      refine ⟨_, rfl, ps, rfl, .inl ⟨_, .inl hO1.sa⟩, _, rfl, ar, _, 1, _, rfl, rfl, hSr, rfl, _, rfl, _, DGet.k (k := .inr sl) hO1.sa, ?_⟩
      dsimp only
      rw [slot_get]
      refine ⟨_, rfl, ar, _, 2, _, rfl, rfl, hSr, rfl, rfl, _, rfl, ?_⟩
      by_cases hw : st1.word (d0 p) sl = u
      · refine if_true_of (by rw [hw]; exact decide_eq_true rfl) ?_
        refine ⟨_, rfl, ar, _, 3, _, rfl, rfl, hSr, rfl, ?_⟩
        refine ⟨_, rfl, _, rfl, _, rfl, _, rfl, .ref pa, vy, ps, td, p, pm, H0, st1, kn, y, m + ci, S, dep + 1, rfl, hPd, pok, hO1, hK, hyD, okr.2.2.2.1, heff, hrd, by omega, by omega, by omega, fun H2 hO2 => ?_⟩
        have eR : runR (knF kn) (d0 p) (.ite sl u y n') st1 = runRs (knF kn) (d0 p) y st1 := by simp only [runR, if_pos hw]
        cases hb : (runRs (knF kn) (d0 p) y st1).2 with
        | true =>
          have st2 := stop (by rw [eR]; exact hb)
          have h := q H2 (by rw [st2, eR]; exact hO2.mono (by omega))
          rw [st2, eR] at h
          unfold gaveV at h ⊢
          rw [hb] at h ⊢
          exact ⟨_, rfl, rfl, _, rfl, if_true_of rfl ⟨_, rfl, h⟩⟩
        | false =>
          unfold gaveV
          rw [hb]
          refine ⟨_, rfl, rfl, _, rfl, if_false_of rfl ⟨_, _, _, rfl, ?_, by rw [nxt, eR]; exact hb⟩⟩
          rw [nxt, eR, ct]
          exact hO2.mono (by omega)
      · refine if_false_of (decide_eq_false (fun h => hw (by injection h))) ?_
        refine ⟨_, rfl, ar, _, 4, _, rfl, rfl, hSr, rfl, ?_⟩
        refine ⟨_, rfl, _, rfl, _, rfl, _, rfl, .ref pa, vn, ps, td, p, pm, H0, st1, kn, n', m + ci, S, dep + 1, rfl, hPd, pok, hO1, hK, hnD, okr.2.2.2.2, heff, hrd, by omega, by omega, by omega, fun H2 hO2 => ?_⟩
        have eR : runR (knF kn) (d0 p) (.ite sl u y n') st1 = runRs (knF kn) (d0 p) n' st1 := by simp only [runR, if_neg hw]
        cases hb : (runRs (knF kn) (d0 p) n' st1).2 with
        | true =>
          have st2 := stop (by rw [eR]; exact hb)
          have h := q H2 (by rw [st2, eR]; exact hO2.mono (by omega))
          rw [st2, eR] at h
          unfold gaveV at h ⊢
          rw [hb] at h ⊢
          exact ⟨_, rfl, rfl, _, rfl, if_true_of rfl ⟨_, rfl, h⟩⟩
        | false =>
          unfold gaveV
          rw [hb]
          refine ⟨_, rfl, rfl, _, rfl, if_false_of rfl ⟨_, _, _, rfl, ?_, by rw [nxt, eR]; exact hb⟩⟩
          rw [nxt, eR, ct]
          exact hO2.mono (by omega)
  · rintro σ H1 ⟨v5, v6, v7, rfl, hO1, hf⟩
    rw [hl, List.take_length] at hO1 hf
    have h := q _ hO1
    unfold gaveV at h
    rw [hf] at h
    exact h
theorem ok_give (T : Tops w K mg) : ∀ k, FnOk P w K mg base CX0 k T.a__law_give T.d__law_give ["_law_parts_here", "_law_rows_here", "_law_table", "_law_slots"] (spGive K k)
  | 0 => by
    have no : ∀ vs H Q E, ¬ spGive K 0 vs H Q E := fun vs H Q E h => by
      obtain ⟨_, _, _, _, _, _, _, _, _, _, _, _, dep, _, _, _, _, _, _, _, _, _, _, h1, h2, _⟩ := h
      omega
    exact ⟨fun vs H Q E h => absurd h (no vs H Q E), fun A outer s H args us vs Q E _ _ _ _ h => absurd h (no vs H Q E)⟩
  | k + 1 => ok_give1 T (ok_give T k)
end
theorem zip_put {ss ws : List Str} {i : Nat} {a b : Str} (nd : ss.Nodup) (ha : ss[i]? = some a) (hb : ws[i]? = some b) : putE ((ss.zip ws).take i) a b = (ss.zip ws).take (i + 1) := by
  have hz : (ss.zip ws)[i]? = some (a, b) := by rw [List.getElem?_zip_eq_some]; exact ⟨ha, hb⟩
  rw [take_more hz]
  unfold putE
  rw [if_neg]
  intro h
  obtain ⟨p, hp, he⟩ := List.any_eq_true.mp h
  have he := of_decide_eq_true he
  obtain ⟨j, hj⟩ := List.getElem?_of_mem hp
  rw [List.getElem?_take] at hj
  split at hj
  · rename_i hji
    obtain ⟨h1, _⟩ := List.getElem?_zip_eq_some.mp hj
    rw [he] at h1
    have hi : i < ss.length := (List.getElem?_eq_some_iff.mp ha).1
    exact absurd ((List.getElem?_inj hi nd).mp (ha.trans h1.symm)) (by omega)
  · cases hj
/-- a list or a tuple -/
def SqA (K : PySem.W.Frag) (H : Hp) (a : Addr) (xs : List V) : Prop := SqL K H a xs ∨ SqT K H a xs
theorem SqA.same {K : PySem.W.Frag} {H H' : Hp} {a : Addr} {xs : List V} (s : Same H H') (h : SqA K H a xs) : SqA K H' a xs := h.elim (fun h => .inl (SqL.same s h)) fun h => .inr (SqT.same s h)
theorem ixA {K : PySem.W.Frag} {H : Hp} {a : Addr} {xs : List V} {i : Nat} {v : V} {Q : VK} (h : SqA K H a xs) (e : xs[i]? = some v) (q : Q v H) : rIx K (.ref a) (.int (i : Nat)) H Q := by
  rcases h with h | h
  · exact .inl ⟨a, xs, _, v, rfl, rfl, h, atI_nat e, q⟩
  · exact .inr (.inl ⟨a, xs, _, v, rfl, rfl, h, atI_nat e, q⟩)
def spLawTrue (K : PySem.W.Frag) : Sp := fun vs H Q _ => ∃ (v : V) (wa : Addr) (p : PP) (m : Nat) (ws : List Str), vs = [v, .ref wa] ∧ Tn K H v p.data ∧ p.Ok m ∧ m ≤ 16 ∧ SqA K H wa (ws.map V.str) ∧ ws.length = p.sources.length ∧
  ∀ (td : Addr) H', Same H H' → H td = none → H' td = some (.dK (kv (known0 p ws))) → Q (.ref td) H'
section
variable {P : Program} {w : World} {K : PySem.W.Frag} {mg : Str → Option Value} {base : Heap}
theorem ok_law_true (T : Tops w K mg) (G__law_give : FnOk P w K mg base CX0 4 T.a__law_give T.d__law_give ["_law_parts_here", "_law_rows_here", "_law_table", "_law_slots"] (spGive K 4)) :
    FnOk P w K mg base CX0 5 T.a__law_true T.d__law_true ["_law_parts_here", "_law_words_here"] (spLawTrue K) := by
  refine T.F__law_true.ok sc_law_true (fun vs H Q E h => ?_) (fun cdv AR outer s H vs Q E hr h => ?_)
  · obtain ⟨v, wa, p, m, ws, rfl, _⟩ := h
    rfl
  obtain ⟨v, wa, p, m, ws, rfl, hD, ok, hm, hW, hwl, q⟩ := h
  obtain ⟨pa, aw, as, vd, ve, rfl, hP, h1, h2, h3, h4⟩ := parts_at hD
  obtain ⟨ad, xs, rfl, hA, hxl, hx⟩ := pairs_at h3
  have s4 := ok.s4
  have d6 := ok.d6
  refine ⟨_, (pss_cons (ps_set (i := 2) sc_law_true.nd rfl (Or.inl rfl) pe_dnewK)
    (pss_cons (ps_for PassesOwn.never rfl (pi_range1 rfl T.z_range (pa_cons (pe_callB call_len rfl T.z_len PySem.boot_len (pa_cons (pe_ix ix_tup (pv 0) pe_int (fun _ _ => rfl)) pa_nil)) pa_nil)) (pg_name (i := 3) sc_law_true.nd rfl (Or.inl rfl)) (pss_one (ps_dput (hu_of hr) (pv 2) (pe_ix ix_tup (pe_ix ix_tup (pv 0) pe_int (fun _ _ => rfl)) (pv 3) (fun _ _ => rfl)) (pe_ix ix_seq (pv 1) (pv 3) (fun _ _ => rfl)) rfl)))
    (pss_cons (ps_for PassesOwn.never rfl (pi_tup (pe_ix ix_tup (pv 0) pe_int (fun _ _ => rfl))) (pg_name (i := 4) sc_law_true.nd rfl (Or.inl rfl)) (pss_cons (ps_set (i := 5) sc_law_true.nd rfl (Or.inl rfl) (pe_call G__law_give (hr.mono (by omega)) rfl T.m__law_give T.F__law_give.kp T.b__law_give .nil pass0 (pa_cons (pv 0) (pa_cons (pe_ix ix_tup (pv 4) pe_int (fun _ _ => rfl)) (pa_cons (pv 2) (pa_cons pe_dnewK pa_nil))))))
    (pss_one (ps_dput (hu_of hr) (pv 2) (pe_ix ix_tup (pv 4) pe_int (fun _ _ => rfl)) (pe_ifExp (pt_cmpR op_isN (pv 5) pe_non (nomark _)) (pe_ix ix_tup (pe_ix ix_tup (pv 0) pe_int (fun _ _ => rfl)) pe_int (fun _ _ => rfl)) (pv 5)) rfl))))
    (pss_one (ps_ret (pv 2)))))), ?_⟩
  refine fun td htd => ?_
  have s1 : Same H (upd H td (.dK [])) := Same.new htd _
  have t1 : upd H td (.dK []) td = some (.dK (kv [])) := upd_same
  dsimp only
  generalize upd H td (.dK []) = H1 at s1 t1
  refine ⟨_, rfl, pa, _, 1, _, rfl, rfl, SqT.same s1 hP, rfl, .ref as, _, rfl, .inr ⟨_, SqT.same s1 h2, rfl⟩, (((p.sources.map V.str).length : Nat) : Int), rfl, by rw [List.length_map]; omega, by rw [List.length_map]; omega, for_range (lo := 0) (n := (((p.sources.map V.str).length : Nat) : Int).toNat)
    (fun i σ H' => ∃ (v3 : Option V), σ = [some (.ref pa), some (.ref wa), some (.ref td), v3, none, none] ∧ Same H H' ∧ H' td = some (.dK (kv ((p.sources.zip ws).take i)))) ⟨none, rfl, s1, by simpa using t1⟩ ?_ ?_⟩
  · rintro i σ H2 hi ⟨v3, rfl, hs, hK⟩
    rw [List.length_map, Int.toNat_natCast] at hi
    have ha : p.sources[i]? = some p.sources[i] := List.getElem?_eq_getElem hi
    have hb : ws[i]? = some ws[i] := List.getElem?_eq_getElem (by omega)
    rw [show (0 : Int) + (i : Nat) = (i : Nat) by omega]
    refine ⟨_, rfl, _, rfl, ixA (hW.same hs) (v := .str ws[i]) (by rw [List.getElem?_map, hb]; rfl) ?_⟩
    refine ⟨_, rfl, _, rfl, pa, _, 1, _, rfl, rfl, SqT.same hs hP, rfl, _, rfl, as, _, (i : Nat), .str p.sources[i], rfl, rfl, SqT.same hs h2, atI_nat (by rw [List.getElem?_map, ha]; rfl), td, _, rfl, put_kv hK (small1000 (by rw [List.length_take, List.length_zip]; omega)), ?_⟩
    refine ⟨_, rfl, own_same hs htd, ?_⟩
    rw [upd_same, zip_put (cellsNodup ok) ha hb]
  · rintro σ H2 ⟨v3, rfl, hs, hK⟩
    rw [List.length_map, Int.toNat_natCast] at hK
    rw [List.take_of_length_le (by rw [List.length_zip]; omega)] at hK
    refine ⟨_, rfl, pa, _, 2, _, rfl, rfl, SqT.same hs hP, rfl, ad, rfl, ⟨_, SqT.same hs hA⟩, for_tup (K := K) (a := ad) (xs := xs) (fun i σ H' => ∃ (v3 v4 v5 : Option V), σ = [some (.ref pa), some (.ref wa), some (.ref td), v3, v4, v5] ∧ Same H H' ∧ H' td = some (.dK (kv (tell (d0 p) (p.sources.zip ws) (p.derived.take i)))))
      ⟨v3, none, none, rfl, hs, hK⟩ (fun i σ H' _ ⟨_, _, _, _, hs, _⟩ => SqT.same hs hA) ?_ ?_⟩
    · rintro i x σ H3 hi ⟨v3, v4, v5, rfl, hs3, hK3⟩
      obtain ⟨qq, b, vr, hq, rfl, hB, hT⟩ := hx i x hi
      obtain ⟨okd, hcd⟩ := okDer_get ok.der hq
      refine ⟨_, rfl, _, rfl, b, _, 1, _, rfl, rfl, SqT.same hs3 hB, rfl, _, rfl, fun ps hps => ?_⟩
      have q6 : Same H3 (upd H3 ps (.dK [])) := Same.new hps _
      have e6 : upd H3 ps (.dK []) ps = some (.dK (kv [])) := upd_same
      refine ⟨.ref pa, vr, ps, td, p, m, H3, rs0 (d0 p), _, qq.2, 0, _, 1, rfl, Tn.same hs3 hD, ok, ⟨q6, hps, e6, Nat.le_refl _⟩, hK3, Dp.same hs3 hT.dp, okd, rfl, fun c hc => ?_, by omega, by omega, by omega, fun H7 hO => ?_⟩
      · refine tell_has _ _ _ _ ?_
        rcases List.mem_append.mp hc with h | h
        · exact .inl (zip_has h hwl.symm)
        · exact .inr h
      · have s37 := hs3.trans hO.same
        have hK7 := hO.same _ _ hK3
        have hlen := tell_len (d0 p) (p.derived.take i) (p.sources.zip ws)
        have htk : (p.derived.take i).length ≤ 6 := by rw [List.length_take]; omega
        have hzl : (p.sources.zip ws).length ≤ 4 := by rw [List.length_zip]; omega
        have ng := notGave_Rs (knF (tell (d0 p) (p.sources.zip ws) (p.derived.take i))) (d0 p) qq.2 (rs0 (d0 p))
        have fin : tell (d0 p) (p.sources.zip ws) (p.derived.take (i + 1)) = putE (tell (d0 p) (p.sources.zip ws) (p.derived.take i)) qq.1 (runRs (knF (tell (d0 p) (p.sources.zip ws) (p.derived.take i))) (d0 p) qq.2 (rs0 (d0 p))).1.given := by
          rw [take_more hq, tell_snoc]
        unfold gaveV
        cases hg : (runRs (knF (tell (d0 p) (p.sources.zip ws) (p.derived.take i))) (d0 p) qq.2 (rs0 (d0 p))).2 with
        | true =>
          refine ⟨_, rfl, rfl, _, rfl, if_false_of rfl ?_⟩
          refine ⟨_, rfl, _, rfl, _, rfl, b, _, 0, _, rfl, rfl, SqT.same s37 hB, rfl, td, _, rfl, put_kv hK7 (small1000 (by omega)), _, _, _, rfl, own_same s37 htd, ?_⟩
          rw [upd_same, fin]
        | false =>
          refine ⟨_, rfl, rfl, _, rfl, if_true_of rfl ?_⟩
          refine ⟨_, rfl, pa, _, 0, _, rfl, rfl, SqT.same s37 hP, rfl, aw, _, 0, _, rfl, rfl, SqT.same s37 h1, d0_at ok, ?_⟩
          refine ⟨_, rfl, _, rfl, b, _, 0, _, rfl, rfl, SqT.same s37 hB, rfl, td, _, rfl, put_kv hK7 (small1000 (by omega)), _, _, _, rfl, own_same s37 htd, ?_⟩
          rw [upd_same, fin, ng hg]
          rfl
    · rintro σ H3 ⟨v3, v4, v5, rfl, hs3, hK3⟩
      rw [hxl, List.take_length] at hK3
      exact ⟨_, rfl, q td H3 hs3 htd hK3⟩
end
end K68
namespace K68
open PySem PySem.Spec PyProof.Rows L2 Td
/-! ### a plain machine, worked out -/
structure PM where
  ws : List Str
  nt : List (Option Td.Env)
  wt : Td.Env
  lg : Td.Env
  rn : Nat
def effRun (p : PP) (ws : List Str) (q : Str × List Td.Row) : RS := (runRs (knF (known0 p ws)) (d0 p) q.2 (rs0 (d0 p))).1
/-- must it run? -/
def stirred (p : PP) (ws : List Str) : Option Td.Env → Bool
  | none => true
  | some l => l.any fun c => decide (knF (known0 p ws) c.1 ≠ c.2)
def runOne (p : PP) (i : Nat) (q : Str × List Td.Row) (M : PM) : PM :=
  ⟨M.ws, M.nt.set i (some (effRun p M.ws q).noted), M.wt ++ (effRun p M.ws q).written, M.lg ++ (effRun p M.ws q).said.map fun z => (q.1, z), M.rn + 1⟩
def lookFrom (p : PP) (most : Nat) : Nat → List (Str × List Td.Row) → PM → Option PM
  | _, [], M => some M
  | i, q :: r, M => if stirred p M.ws ((M.nt[i]?).getD none) = true then (if M.rn = most then none else lookFrom p most (i + 1) r (runOne p i q M)) else lookFrom p most (i + 1) r M
def setW (p : PP) (ws : List Str) (c : Str × Str) : List Str := (p.sources.zip ws).map fun e => if e.1 = c.1 then c.2 else e.2
def counting (p : PP) (ws : List Str) (wr : Td.Env) : Td.Env := wr.filter fun c => decide (getE (p.sources.zip ws) c.1 ≠ some c.2)
def writeF (p : PP) (most : Nat) (wr : Td.Env) (M : PM) : Option PM :=
  if counting p M.ws wr = [] then some M else lookFrom p most 0 p.effects { M with ws := (counting p M.ws wr).foldl (setW p) M.ws }
def restF (p : PP) (most : Nat) : Nat → PM → Option PM
  | 0, M => some M
  | n + 1, M => match M.wt with
    | [] => some M
    | c :: r => (writeF p most [c] { M with wt := r }).bind (restF p most n)
/-- how long the rest can be at most -/
def PM.pot (most : Nat) (M : PM) : Nat := M.wt.length + 16 * (most - M.rn)
theorem lookFrom_pot {p : PP} {most : Nat} : ∀ (qs : List (Str × List Td.Row)) (i : Nat) (M M' : PM), (∀ q ∈ qs, ∀ ws, (effRun p ws q).written.length ≤ 16) → M.rn ≤ most → lookFrom p most i qs M = some M' → M'.rn ≤ most ∧ M'.pot most ≤ M.pot most ∧ M'.ws = M.ws ∧ M'.nt.length = M.nt.length
  | [], i, M, M', _, h, e => by
    unfold lookFrom at e
    cases e
    exact ⟨h, Nat.le_refl _, rfl, rfl⟩
  | q :: r, i, M, M', hq, h, e => by
    unfold lookFrom at e
    have hr := fun x hx => hq x (List.mem_cons_of_mem _ hx)
    split at e
    · split at e
      · cases e
      · rename_i hne
        have h1 : (runOne p i q M).rn ≤ most := by show M.rn + 1 ≤ most; omega
        obtain ⟨a, b, c, d⟩ := lookFrom_pot r (i + 1) _ M' hr h1 e
        refine ⟨a, Nat.le_trans b ?_, c, d.trans (List.length_set ..)⟩
        have h16 := hq q (List.mem_cons_self ..) M.ws
        show (M.wt ++ (effRun p M.ws q).written).length + 16 * (most - (M.rn + 1)) ≤ M.wt.length + 16 * (most - M.rn)
        rw [List.length_append]
        omega
    · exact lookFrom_pot r (i + 1) M M' hr h e
theorem setW_len {p : PP} {ws : List Str} {c : Str × Str} (h : ws.length = p.sources.length) : (setW p ws c).length = p.sources.length := by
  unfold setW
  rw [List.length_map, List.length_zip]
  omega
theorem setWs_len {p : PP} : ∀ (cs : Td.Env) {ws : List Str}, ws.length = p.sources.length → (cs.foldl (setW p) ws).length = p.sources.length
  | [], _, h => h
  | c :: r, ws, h => setWs_len r (setW_len h)
theorem writeF_pot {p : PP} {most : Nat} {wr : Td.Env} {M M' : PM} (hq : ∀ q ∈ p.effects, ∀ ws, (effRun p ws q).written.length ≤ 16) (h : M.rn ≤ most) (hw : M.ws.length = p.sources.length) (e : writeF p most wr M = some M') : M'.rn ≤ most ∧ M'.pot most ≤ M.pot most ∧ M'.ws.length = p.sources.length ∧ M'.nt.length = M.nt.length := by
  unfold writeF at e
  split at e
  · cases e
    exact ⟨h, Nat.le_refl _, hw, rfl⟩
  · obtain ⟨a, b, c, d⟩ := lookFrom_pot _ _ _ _ hq (by exact h) e
    exact ⟨a, b, by rw [c]; exact setWs_len _ hw, d⟩
/-- with enough turns nothing waits at the end -/
theorem restF_done {p : PP} {most : Nat} (hq : ∀ q ∈ p.effects, ∀ ws, (effRun p ws q).written.length ≤ 16) : ∀ (n : Nat) (M M' : PM), M.rn ≤ most → M.ws.length = p.sources.length → M.pot most ≤ n → restF p most n M = some M' → M'.wt = [] ∧ M'.ws.length = p.sources.length ∧ M'.nt.length = M.nt.length ∧ M'.rn ≤ most
  | 0, M, M', h, hw, hp, e => by
    unfold restF at e
    cases e
    unfold PM.pot at hp
    exact ⟨List.length_eq_zero_iff.mp (by omega), hw, rfl, h⟩
  | n + 1, M, M', h, hw, hp, e => by
    unfold restF at e
    split at e
    · rename_i e0
      cases e
      exact ⟨e0, hw, rfl, h⟩
    · rename_i c r e0
      cases e1 : writeF p most [c] { M with wt := r } with
      | none => rw [e1] at e; cases e
      | some M1 =>
        rw [e1] at e
        obtain ⟨a, b, c1, d⟩ := writeF_pot hq (M := { M with wt := r }) h hw e1
        have hp2 : M1.pot most ≤ n := by
          have : ({ M with wt := r } : PM).pot most + 1 = M.pot most := by
            show r.length + 16 * (most - M.rn) + 1 = M.wt.length + 16 * (most - M.rn)
            rw [e0, List.length_cons]
            omega
          omega
        obtain ⟨x, y, z, t⟩ := restF_done hq n M1 M' a c1 hp2 e
        exact ⟨x, y, z.trans d, t⟩
end K68
namespace K68
open PySem PySem.Spec PyProof.Rows L2 Td
def noteD : Option Td.Env → PyData
  | none => .none
  | some l => envD l
/-- where a plain machine's things lie -/
structure PlA where
  x : Addr
  dx : Addr
  pa : Addr
  hd : Addr
  nl : Addr
  wl : Addr
  ll : Addr
def PlA.flds (A : PlA) (most : Nat) (rn : Nat) : List (Str × V) := [("program", .ref A.pa), ("most", .int (most : Nat)), ("held", .ref A.hd), ("notes", .ref A.nl), ("waiting", .ref A.wl), ("log", .ref A.ll), ("runs", .int (rn : Nat))]
structure PlAt (K : PySem.W.Frag) (H : Hp) (CM CP : Addr) (A : PlA) (p : PP) (most : Nat) (M : PM) : Prop where
  ob : H A.x = some (.ins CM A.dx (A.flds most M.rn))
  pr : ProgAt K H CP A.pa p
  hd : H A.hd = some (.dK (kv (p.sources.zip M.ws)))
  nt : ∃ xs, H A.nl = some (.lst xs) ∧ TnAll K H xs (M.nt.map noteD)
  wt : ∃ xs, H A.wl = some (.lst xs) ∧ TnAll K H xs (M.wt.map wrD)
  lg : ∃ xs, H A.ll = some (.lst xs) ∧ TnAll K H xs (M.lg.map wrD)
  d1 : A.nl ≠ A.wl
  d2 : A.nl ≠ A.ll
  d3 : A.wl ≠ A.ll
def spPlInit (K : PySem.W.Frag) (CM CP : Addr) : Sp := fun vs H Q _ => ∃ (x dx pa wa nl : Addr) (xs : List V) (p : PP) (m : Nat) (ws : List Str) (nt : List (Option Td.Env)) (most : Nat) (H0 : Hp), vs = [.ref x, .ref pa, .ref wa, .ref nl, .int (most : Nat)] ∧ H x = some (.ins CM dx []) ∧ Same H0 H ∧ H0 x = none ∧ ProgAt K H0 CP pa p ∧ p.Ok m ∧
  SqT K H0 wa (ws.map V.str) ∧ ws.length = p.sources.length ∧ (SqL K H0 nl xs ∨ SqT K H0 nl xs) ∧ TnAll K H0 xs (nt.map noteD) ∧
  ∀ (A : PlA) H', A.x = x → A.pa = pa → Same H0 H' → H0 A.x = none → H0 A.hd = none → H0 A.nl = none → H0 A.wl = none → H0 A.ll = none → PlAt K H' CM CP A p most ⟨ws, nt, [], [], 0⟩ → Q .non H'
section
variable {P : Program} {w : World} {K : PySem.W.Frag} {mg : Str → Option Value} {base : Heap}
theorem ok_plain_init (T : Tops w K mg) : FnOk P w K mg base CX0 1 T.a_PlainMachine_init T.d_PlainMachine_init ["self", "program", "words", "notes", "most"] (spPlInit K T.c_PlainMachine T.c_Program) := by
  refine T.F_PlainMachine_init.ok sc_PlainMachine_init (fun vs H Q E h => ?_) (fun cdv A outer s H vs Q E hr h => ?_)
  · obtain ⟨x, dx, pa, wa, nl, xs, p, m, ws, nt, most, H0, rfl, _⟩ := h
    rfl
  obtain ⟨x, dx, pa, wa, nl, xs, p, m, ws, nt, most, H0, rfl, hx, hs, h0, hP, ok, hW, hl, hN, hNt, q⟩ := h
  refine ⟨_, (pss_cons (ps_fld (pv 0) (pv 1) rfl)
    (pss_cons (ps_fld (pv 0) (pv 4) rfl)
    (pss_cons (ps_fld (pv 0) (pe_dictZip rfl rfl T.z_dict rfl T.z_zip (pa_cons (pe_fld (pv 1) rfl) (pa_cons (pv 2) pa_nil))) rfl)
    (pss_cons (ps_fld (pv 0) (pe_callTy call_list_of rfl T.z_list (by decide +kernel) (pa_cons (pv 3) pa_nil)) rfl)
    (pss_cons (ps_fld (pv 0) (pe_lst pa_nil) rfl)
    (pss_cons (ps_fld (pv 0) (pe_lst pa_nil) rfl)
    (pss_one (ps_fld (pv 0) pe_int rfl)))))))), ?_⟩
  obtain ⟨pdx, aw, as, vd, ve, ⟨dn, en, e, hdn, hen⟩, h1, h2, h3, h4⟩ := hP.ex
  refine ⟨_, rfl, _, rfl, x, T.c_PlainMachine, dx, [], rfl, hx, T.l_PlainMachine, T.n_PlainMachine_program, by show 0 < 1000; decide, ?_⟩
  refine ⟨_, rfl, _, rfl, x, T.c_PlainMachine, dx, _, rfl, upd_same, T.l_PlainMachine, T.n_PlainMachine_most, by show 1 < 1000; decide, ?_⟩
  rw [upd_upd]
  have s1 : Same H0 (upd H x (.ins T.c_PlainMachine dx (putF "most" (.int (most : Nat)) (putF "program" (.ref pa) [])))) := own_same hs h0
  have x1 : upd H x (.ins T.c_PlainMachine dx (putF "most" (.int (most : Nat)) (putF "program" (.ref pa) []))) x = some (.ins T.c_PlainMachine dx (putF "most" (.int (most : Nat)) (putF "program" (.ref pa) []))) := upd_same
  generalize upd H x (.ins T.c_PlainMachine dx (putF "most" (.int (most : Nat)) (putF "program" (.ref pa) []))) = H1 at s1 x1
  refine ⟨_, rfl, pa, _, pdx, _, _, rfl, s1 _ _ e, T.l_Program, T.n_Program_sources, progF_sources .., _, rfl, as, wa, p.sources.map Sum.inr, ws.map V.str, rfl, by rw [List.map_map]; exact SqT.same s1 h2, SqT.same s1 hW, by rw [List.length_map, List.length_map, hl], fun kd hkd => ?_⟩
  have em : mergeK [] ((p.sources.map Sum.inr : List Key).zip (ws.map V.str)) = kv (p.sources.zip ws) := by
    rw [← kv_zip]
    refine merge_kv (p.sources.zip ws) [] ?_
    rw [List.nil_append, List.map_fst_zip (Nat.le_of_eq hl.symm)]
    exact cellsNodup ok
  rw [em]
  refine ⟨_, rfl, x, T.c_PlainMachine, dx, _, rfl, Same.new hkd _ _ _ x1, T.l_PlainMachine, T.n_PlainMachine_held, by show 2 < 1000; decide, ?_⟩
  obtain ⟨fs2, ef2⟩ : ∃ fs, fs = putF "most" (.int (most : Nat)) (putF "program" (.ref pa) []) := ⟨_, rfl⟩
  obtain ⟨H2, e2, s2, f2, x2, y2, k2⟩ := fld_new (o := .dK (kv (p.sources.zip ws))) (u' := .ins T.c_PlainMachine dx (putF "held" (.ref kd) (putF "most" (.int (most : Nat)) (putF "program" (.ref pa) [])))) s1 h0 x1 hkd
  dsimp only
  rw [e2]
  have nkx : kd ≠ x := fun e => by rw [e, x2] at y2; cases y2
  refine ⟨_, rfl, nl, xs, rfl, hN.imp (SqL.same s2) (SqT.same s2), fun l1 hl1 => ⟨_, rfl, x, T.c_PlainMachine, dx, _, rfl, Same.new hl1 _ _ _ x2, T.l_PlainMachine, T.n_PlainMachine_notes, Nat.lt_of_le_of_lt (m := 3) (Nat.le_of_eq (by kernel_rfl)) (by decide), ?_⟩⟩
  obtain ⟨H3, e3, s3, f3, x3, y3, k3⟩ := fld_new (o := .lst xs) (u' := .ins T.c_PlainMachine dx (putF "notes" (.ref l1) (putF "held" (.ref kd) (putF "most" (.int (most : Nat)) (putF "program" (.ref pa) []))))) s2 h0 x2 hl1
  dsimp only
  rw [e3]
  have n1x : l1 ≠ x := fun e => by rw [e, x3] at y3; cases y3
  refine ⟨by show 0 ≤ sizeLine; decide, fun l2 hl2 => ⟨_, rfl, x, T.c_PlainMachine, dx, _, rfl, Same.new hl2 _ _ _ x3, T.l_PlainMachine, T.n_PlainMachine_waiting, Nat.lt_of_le_of_lt (m := 4) (Nat.le_of_eq (by kernel_rfl)) (by decide), ?_⟩⟩
  obtain ⟨H4, e4, s4, f4, x4, y4, k4⟩ := fld_new (o := .lst ([] : List V)) (u' := .ins T.c_PlainMachine dx (putF "waiting" (.ref l2) (putF "notes" (.ref l1) (putF "held" (.ref kd) (putF "most" (.int (most : Nat)) (putF "program" (.ref pa) [])))))) s3 h0 x3 hl2
  dsimp only
  rw [e4]
  have n2x : l2 ≠ x := fun e => by rw [e, x4] at y4; cases y4
  refine ⟨by show 0 ≤ sizeLine; decide, fun l3 hl3 => ⟨_, rfl, x, T.c_PlainMachine, dx, _, rfl, Same.new hl3 _ _ _ x4, T.l_PlainMachine, T.n_PlainMachine_log, Nat.lt_of_le_of_lt (m := 5) (Nat.le_of_eq (by kernel_rfl)) (by decide), ?_⟩⟩
  obtain ⟨H5, e5, s5, f5, x5, y5, k5⟩ := fld_new (o := .lst ([] : List V)) (u' := .ins T.c_PlainMachine dx (putF "log" (.ref l3) (putF "waiting" (.ref l2) (putF "notes" (.ref l1) (putF "held" (.ref kd) (putF "most" (.int (most : Nat)) (putF "program" (.ref pa) []))))))) s4 h0 x4 hl3
  dsimp only
  rw [e5]
  have n3x : l3 ≠ x := fun e => by rw [e, x5] at y5; cases y5
  refine ⟨_, rfl, x, T.c_PlainMachine, dx, _, rfl, x5, T.l_PlainMachine, T.n_PlainMachine_runs, Nat.lt_of_le_of_lt (m := 6) (Nat.le_of_eq (by kernel_rfl)) (by decide), ?_⟩
  have s6 : Same H0 (upd H5 x (.ins T.c_PlainMachine dx (putF "runs" (.int 0) (putF "log" (.ref l3) (putF "waiting" (.ref l2) (putF "notes" (.ref l1) (putF "held" (.ref kd) (putF "most" (.int (most : Nat)) (putF "program" (.ref pa) []))))))))) := own_same s5 h0
  have n12 : l1 ≠ l2 := fun e => by rw [e] at y3; rw [y3] at hl2; cases hl2
  have n13 : l1 ≠ l3 := fun e => by have := k4 _ _ n1x y3; rw [e, hl3] at this; cases this
  have n23 : l2 ≠ l3 := fun e => by rw [e] at y4; rw [y4] at hl3; cases hl3
  refine q ⟨x, dx, pa, kd, l1, l2, l3⟩ _ rfl rfl s6 h0 f2 f3 f4 f5 ⟨?_, hP.same s6, ?_, ⟨xs, ?_, TnAll.keep (TK.of_same s6) hNt⟩, ⟨[], ?_, .nil⟩, ⟨[], ?_, .nil⟩, n12, n13, n23⟩
  · rw [upd_same]
    congr 1
  · rw [upd_ne nkx]; exact k5 _ _ nkx (k4 _ _ nkx (k3 _ _ nkx y2))
  · rw [upd_ne n1x]; exact k5 _ _ n1x (k4 _ _ n1x y3)
  · rw [upd_ne n2x]; exact k5 _ _ n2x y4
  · rw [upd_ne n3x]; exact y5
end
end K68
namespace K68
open PySem PySem.Spec PyProof.Rows L2 Td
/-- the words of the sources now -/
def spNow (K : PySem.W.Frag) (CM CP : Addr) : Sp := fun vs H Q _ => ∃ (A : PlA) (p : PP) (m most : Nat) (M : PM), vs = [.ref A.x] ∧ PlAt K H CM CP A p most M ∧ p.Ok m ∧ m ≤ 16 ∧ M.ws.length = p.sources.length ∧
  ∀ (t : Addr) H', Same H H' → SqT K H' t (M.ws.map V.str) → Q (.ref t) H'
def spTrueNow (K : PySem.W.Frag) (CM CP : Addr) : Sp := fun vs H Q _ => ∃ (A : PlA) (p : PP) (m most : Nat) (M : PM), vs = [.ref A.x] ∧ PlAt K H CM CP A p most M ∧ p.Ok m ∧ m ≤ 16 ∧ M.ws.length = p.sources.length ∧
  ∀ (kd : Addr) H', Same H H' → H' kd = some (.dK (kv (known0 p M.ws))) → Q (.ref kd) H'
def restD (M : PM) : PyData := .tuple [strsD M.ws, .tuple (M.nt.map noteD)]
def spAtRest (K : PySem.W.Frag) (CM CP : Addr) : Sp := fun vs H Q _ => ∃ (A : PlA) (p : PP) (m most : Nat) (M : PM), vs = [.ref A.x] ∧ PlAt K H CM CP A p most M ∧ p.Ok m ∧ m ≤ 16 ∧ M.ws.length = p.sources.length ∧
  ∀ (t : Addr) H', Same H H' → Tn K H' (.ref t) (restD M) → Q (.ref t) H'
theorem PlAt.same {K : PySem.W.Frag} {H H' : Hp} {CM CP : Addr} {A : PlA} {p : PP} {most : Nat} {M : PM} (h : PlAt K H CM CP A p most M) (s : Same H H') : PlAt K H' CM CP A p most M := by
  obtain ⟨a, b, c, ⟨x1, d1, d2⟩, ⟨x2, e1, e2⟩, ⟨x3, f1, f2⟩, n1, n2, n3⟩ := h
  have tk := TK.of_same s
  exact ⟨s _ _ a, b.same s, s _ _ c, ⟨x1, s _ _ d1, TnAll.keep tk d2⟩, ⟨x2, s _ _ e1, TnAll.keep tk e2⟩, ⟨x3, s _ _ f1, TnAll.keep tk f2⟩, n1, n2, n3⟩
theorem fl_pl (A : PlA) (most rn : Nat) : (A.flds most rn).lookup ("program" : Str) = some (.ref A.pa) ∧ (A.flds most rn).lookup ("most" : Str) = some (.int (most : Nat)) ∧ (A.flds most rn).lookup ("held" : Str) = some (.ref A.hd) ∧
    (A.flds most rn).lookup ("notes" : Str) = some (.ref A.nl) ∧ (A.flds most rn).lookup ("waiting" : Str) = some (.ref A.wl) ∧ (A.flds most rn).lookup ("log" : Str) = some (.ref A.ll) ∧ (A.flds most rn).lookup ("runs" : Str) = some (.int (rn : Nat)) :=
  ⟨by kernel_rfl, by kernel_rfl, by kernel_rfl, by kernel_rfl, by kernel_rfl, by kernel_rfl, by kernel_rfl⟩
theorem getE_zip {ss ws : List Str} {i : Nat} {s w : Str} (nd : ss.Nodup) (hs : ss[i]? = some s) (hw : ws[i]? = some w) : getE (ss.zip ws) s = some w := by
  unfold getE
  induction ss generalizing ws i with
  | nil => cases hs
  | cons a r ih =>
    cases ws with
    | nil => cases hw
    | cons b t =>
      obtain ⟨n1, n2⟩ := List.nodup_cons.mp nd
      cases i with
      | zero =>
        cases hs; cases hw
        rw [List.zip_cons_cons, List.find?_cons_of_pos (by simp)]
        rfl
      | succ i =>
        have hm : s ∈ r := List.mem_of_getElem? (show r[i]? = some s from hs)
        have hne : a ≠ s := fun e => n1 (e ▸ hm)
        rw [List.zip_cons_cons, List.find?_cons_of_neg (by simpa using hne)]
        exact ih n2 hs hw
section
variable {P : Program} {w : World} {K : PySem.W.Frag} {mg : Str → Option Value} {base : Heap}
theorem ok_words_now (T : Tops w K mg) : FnOk P w K mg base CX0 1 T.a_PlainMachine_words_now T.d_PlainMachine_words_now ["self"] (spNow K T.c_PlainMachine T.c_Program) := by
  refine T.F_PlainMachine_words_now.ok sc_PlainMachine_words_now (fun vs H Q E h => ?_) (fun cdv AR outer s H vs Q E hr h => ?_)
  · obtain ⟨A, p, m, most, M, rfl, _⟩ := h
    rfl
  obtain ⟨A, p, m, most, M, rfl, hA, ok, hm, hl, q⟩ := h
  refine ⟨_, (pss_one (ps_ret (pe_callTy (T := "tuple") call_tuple_of rfl T.z_tuple (by decide +kernel) (pa_cons (pe_lc (own := [(("source" : Str), 1)]) (wi := (iTup K (tFld K (tFld K (tVar 0) "program") "sources"))) (g := gName 1) (tt := tYes) (te := (tDGet (tFld K (tVar 0) "held") (tVar 1))) rfl sc_PlainMachine_words_now.nd (pi_tup (pe_fld (pe_fld (pv 0) rfl) rfl)) (blkOk_by (own := [(("source" : Str), 1)]) (N := N_PlainMachine_words_now) (sc := defScope s_PlainMachine_words_now) (by decide +kernel)) (fun _ _ _ _ _ => (pg_name (i := 1) sc_PlainMachine_words_now.nd rfl (Or.inl rfl))) (fun _ _ _ _ _ => pts_nil) (fun _ _ _ _ _ => (pe_dget (hu_of hr) (pe_fld (pv 0) rfl) (pv 1) (fun _ _ => rfl)))) pa_nil)))), ?_⟩
  obtain ⟨pdx, as, _, vd, ve, ⟨dn, en, e, hdn, hen⟩, _, h2, h3, h4⟩ := hA.pr.ex
  have hob := hA.ob
  obtain ⟨fp, _, fh, _⟩ := fl_pl A most M.rn
  have s4 := ok.s4
  refine ⟨_, rfl, A.x, _, A.dx, _, _, rfl, hob, T.l_PlainMachine, T.n_PlainMachine_program, fp, A.pa, _, pdx, _, _, rfl, e, T.l_Program, T.n_Program_sources, progF_sources .., _, rfl, ⟨_, h2⟩, fun D hD => fiS_tup (p.sources.zip M.ws) (fun c => V.str c.1) (fun _ => true) (fun c => V.str c.2) h2 ?_ (by rw [List.length_zip]; omega) hD ?_ ?_⟩
  · rw [show (fun c : Str × Str => V.str c.1) = V.str ∘ Prod.fst from rfl, ← List.map_map, List.map_fst_zip (Nat.le_of_eq hl.symm)]
  · rintro i c H' hc s Yes No yes no
    obtain ⟨c1, c2⟩ := List.getElem?_zip_eq_some.mp hc
    refine ⟨rfl, tYes_of ?_⟩
    refine ⟨_, rfl, A.x, _, A.dx, _, _, rfl, s _ _ hob, T.l_PlainMachine, T.n_PlainMachine_held, fh, _, rfl, A.hd, .str c.2, rfl, ?_, yes rfl _ (Same.refl _)⟩
    have g := getE_zip (cellsNodup ok) c1 c2
    have g2 := get_known (s _ _ hA.hd) (c := c.1) (by rw [g]; rfl)
    have ek : knF (p.sources.zip M.ws) c.1 = c.2 := by unfold knF; rw [g]; rfl
    rw [ek] at g2
    exact g2
  · rintro H' s hb
    rw [Td.filter_all] at hb
    have e2 : (p.sources.zip M.ws).map (fun c => V.str c.2) = M.ws.map V.str := by
      rw [show (fun c : Str × Str => V.str c.2) = V.str ∘ Prod.snd from rfl, ← List.map_map, List.map_snd_zip (Nat.le_of_eq hl)]
    rw [e2] at hb
    exact ⟨D, _, rfl, .inl ⟨SqL.of hb, fun t ht => q t _ (s.trans (Same.new ht _)) (SqT.of upd_same)⟩⟩
theorem ok_true_now (T : Tops w K mg) (G_PlainMachine_words_now : FnOk P w K mg base CX0 1 T.a_PlainMachine_words_now T.d_PlainMachine_words_now ["self"] (spNow K T.c_PlainMachine T.c_Program))
    (G_known_words : FnOk P w K mg base CX0 8 T.a_known_words T.d_known_words ["program", "words"] (spKnown K T.c_Program)) :
    FnOk P w K mg base CX0 9 T.a_PlainMachine_true_now T.d_PlainMachine_true_now ["self"] (spTrueNow K T.c_PlainMachine T.c_Program) := by
  refine T.F_PlainMachine_true_now.ok sc_PlainMachine_true_now (fun vs H Q E h => ?_) (fun cdv AR outer s H vs Q E hr h => ?_)
  · obtain ⟨A, p, m, most, M, rfl, _⟩ := h
    rfl
  obtain ⟨A, p, m, most, M, rfl, hA, ok, hm, hl, q⟩ := h
  refine ⟨_, (pss_one (ps_ret (pe_call G_known_words (hr.mono (by omega)) rfl T.m_known_words T.F_known_words.kp T.b_known_words .nil pass0 (pa_cons (pe_fld (pv 0) rfl) (pa_cons (pe_meth0 (pv 0) T.l_PlainMachine T.t_PlainMachine_words_now G_PlainMachine_words_now (hr.mono (by omega)) T.b_PlainMachine_words_now .nil pass0) pa_nil))))), ?_⟩
  have hob := hA.ob
  obtain ⟨fp, _⟩ := fl_pl A most M.rn
  refine ⟨_, rfl, A.x, _, A.dx, _, _, rfl, hob, T.l_PlainMachine, T.n_PlainMachine_program, fp, _, rfl, A.x, A.dx, _, rfl, hob, by kernel_rfl, A, p, m, most, M, rfl, hA, ok, hm, hl, fun t H1 s1 ht => ?_⟩
  exact ⟨A.pa, t, p, m, M.ws, rfl, hA.pr.same s1, ok, hm, ht, hl, fun kd H' s' hk => q kd H' (s1.trans s') hk⟩
theorem ok_at_rest (T : Tops w K mg) (G_PlainMachine_words_now : FnOk P w K mg base CX0 1 T.a_PlainMachine_words_now T.d_PlainMachine_words_now ["self"] (spNow K T.c_PlainMachine T.c_Program)) :
    FnOk P w K mg base CX0 2 T.a_PlainMachine_at_rest T.d_PlainMachine_at_rest ["self"] (spAtRest K T.c_PlainMachine T.c_Program) := by
  refine T.F_PlainMachine_at_rest.ok sc_PlainMachine_at_rest (fun vs H Q E h => ?_) (fun cdv AR outer s H vs Q E hr h => ?_)
  · obtain ⟨A, p, m, most, M, rfl, _⟩ := h
    rfl
  obtain ⟨A, p, m, most, M, rfl, hA, ok, hm, hl, q⟩ := h
  refine ⟨_, (pss_one (ps_ret (pe_tup (pa_cons (pe_meth0 (pv 0) T.l_PlainMachine T.t_PlainMachine_words_now G_PlainMachine_words_now (hr.mono (by omega)) T.b_PlainMachine_words_now .nil pass0) (pa_cons (pe_callTy (T := "tuple") call_tuple_of rfl T.z_tuple (by decide +kernel) (pa_cons (pe_fld (pv 0) rfl) pa_nil)) pa_nil))))), ?_⟩
  have hob := hA.ob
  obtain ⟨_, _, _, fn, _⟩ := fl_pl A most M.rn
  obtain ⟨xs, n1, n2⟩ := hA.nt
  refine ⟨_, rfl, A.x, A.dx, _, rfl, hob, by kernel_rfl, A, p, m, most, M, rfl, hA, ok, hm, hl, fun t H1 s1 ht => ?_⟩
  refine ⟨_, rfl, A.x, _, A.dx, _, _, rfl, s1 _ _ hob, T.l_PlainMachine, T.n_PlainMachine_notes, fn, A.nl, _, rfl, .inl ⟨SqL.of (s1 _ _ n1), fun t2 ht2 => ⟨by show 2 ≤ sizeLine; decide, fun t3 ht3 => ?_⟩⟩⟩
  have z2 := Same.new ht2 (.tup xs)
  have z3 := Same.new ht3 (.tup [V.ref t, .ref t2])
  have s := s1.trans (z2.trans z3)
  exact q t3 _ s (.tup (SqT.of upd_same) (.cons (.tup (SqT.same (z2.trans z3) ht) (TnAll.strs _)) (.cons (.tup (SqT.same z3 (SqT.of upd_same)) (TnAll.keep (TK.of_same s) n2)) .nil)))
end
end K68
namespace K68
open PySem PySem.Spec PyProof.Rows L2 Td
/-! ### what a run writes and notes stays within the program -/
structure RsIn (S : Sc) (st : RS) : Prop where
  sl : ∀ c ∈ st.slots, c.2 ∈ S.words
  no : ∀ c ∈ st.noted, c.1 ∈ S.readable ∧ c.2 ∈ S.words
  sa : ∀ z ∈ st.said, z ∈ S.words
  wr : ∀ c ∈ st.written, c.1 ∈ S.sources ∧ c.2 ∈ S.words
  gi : st.given ∈ S.words
theorem word_inn {S : Sc} {st : RS} {d s : Str} (h : RsIn S st) (hd : d ∈ S.words) : st.word d s ∈ S.words := by
  unfold RS.word
  cases e : getE st.slots s with
  | none => exact hd
  | some u =>
    obtain ⟨c, hc, rfl⟩ := get_has e
    exact h.sl c hc
mutual
theorem inn_R {S : Sc} {kn : Str → Str} {d : Str} (hS : ∀ c ∈ S.readable, kn c ∈ S.words) (hd : d ∈ S.words) : ∀ (r : Td.Row) (dep : Nat) (st : RS), okR S dep r → RsIn S st → RsIn S (runR kn d r st).1
  | .rd pk c s, dep, st, ok, h => by
    unfold okR at ok
    have c2 := hS c ok.2.1
    have hs : ∀ e ∈ putE st.slots s (kn c), e.2 ∈ S.words := fun e he => by
      rcases put_mem he with q | ⟨_, q⟩
      · exact h.sl e q
      · rw [q]; exact c2
    simp only [runR]
    cases pk
    · refine ⟨hs, fun e he => ?_, h.sa, h.wr, h.gi⟩
      rcases sd_mem he with q | ⟨q1, q2⟩
      · exact h.no e q
      · rw [q1, q2]; exact ⟨ok.2.1, c2⟩
    · exact ⟨hs, h.no, h.sa, h.wr, h.gi⟩
  | .put s u, dep, st, ok, h => by
    unfold okR at ok
    simp only [runR]
    refine ⟨fun e he => ?_, h.no, h.sa, h.wr, h.gi⟩
    rcases put_mem he with q | ⟨_, q⟩
    · exact h.sl e q
    · rw [q]; exact ok.2
  | .give s, dep, st, ok, h => by
    simp only [runR]
    exact ⟨h.sl, h.no, h.sa, h.wr, word_inn h hd⟩
  | .say s, dep, st, ok, h => by
    simp only [runR]
    refine ⟨h.sl, h.no, fun z hz => ?_, h.wr, h.gi⟩
    rcases List.mem_append.mp hz with q | q
    · exact h.sa z q
    · rw [List.mem_singleton.mp q]; exact word_inn h hd
  | .wr c s, dep, st, ok, h => by
    unfold okR at ok
    simp only [runR]
    refine ⟨h.sl, h.no, h.sa, fun e he => ?_, h.gi⟩
    rcases List.mem_append.mp he with q | q
    · exact h.wr e q
    · rw [List.mem_singleton.mp q]; exact ⟨ok.2.1, word_inn h hd⟩
  | .ite s u y n, dep, st, ok, h => by
    unfold okR at ok
    simp only [runR]
    split
    · exact inn_Rs hS hd y (dep + 1) st ok.2.2.2.1 h
    · exact inn_Rs hS hd n (dep + 1) st ok.2.2.2.2 h
theorem inn_Rs {S : Sc} {kn : Str → Str} {d : Str} (hS : ∀ c ∈ S.readable, kn c ∈ S.words) (hd : d ∈ S.words) : ∀ (rs : List Td.Row) (dep : Nat) (st : RS), okRs S dep rs → RsIn S st → RsIn S (runRs kn d rs st).1
  | [], dep, st, ok, h => by simp only [runRs]; exact h
  | r :: rs, dep, st, ok, h => by
    unfold okRs at ok
    have h1 := inn_R hS hd r dep st ok.1 h
    by_cases hb : (runR kn d r st).2 = true
    · rw [runRs_yes _ hb]; exact h1
    · rw [runRs_no _ hb]; exact inn_Rs hS hd rs dep _ ok.2 h1
end
theorem inn0 {S : Sc} {d : Str} (hd : d ∈ S.words) : RsIn S (rs0 d) :=
  ⟨(fun _ h => nomatch h), (fun _ h => nomatch h), (fun _ h => nomatch h), (fun _ h => nomatch h), hd⟩
theorem d0_in {p : PP} {m : Nat} (ok : p.Ok m) : d0 p ∈ p.words := by
  have := ok.w2
  unfold d0
  cases h : p.words with
  | nil => rw [h] at this; simp at this
  | cons z r => exact List.mem_cons_self
theorem knF_in {kn : Td.Env} {ws : List Str} {c : Str} (h : ∀ e ∈ kn, e.2 ∈ ws) (hc : (getE kn c).isSome = true) : knF kn c ∈ ws := by
  obtain ⟨u, hu⟩ := Option.isSome_iff_exists.mp hc
  obtain ⟨e, he, rfl⟩ := get_has hu
  unfold knF
  rw [hu]
  exact h e he
theorem tell_in {words sources : List Str} {most : Nat} {d : Str} (hd : d ∈ words) : ∀ {ps : List (Str × List Td.Row)} {rd : List Str} {kn : Td.Env}, okDer words sources most rd ps → (∀ c ∈ rd, (getE kn c).isSome = true) → (∀ e ∈ kn, e.2 ∈ words) → ∀ e ∈ tell d kn ps, e.2 ∈ words
  | [], rd, kn, _, _, h => h
  | q :: ps, rd, kn, ok, hr, h => by
    unfold okDer at ok
    have g := (inn_Rs (S := ⟨false, words, sources, rd⟩) (kn := knF kn) (d := d) (fun c hc => knF_in h (hr c hc)) hd q.2 1 _ ok.1 (inn0 hd)).gi
    refine tell_in hd (rd := rd ++ [q.1]) (kn := putE kn q.1 _) ok.2.2 (fun c hc => ?_) (fun e he => ?_)
    · rw [getE_put]
      by_cases e : c = q.1
      · rw [if_pos e]; rfl
      · rw [if_neg e]
        rcases List.mem_append.mp hc with x | x
        · exact hr c x
        · exact absurd (List.mem_singleton.mp x) e
    · rcases put_mem he with x | ⟨_, x⟩
      · exact h e x
      · rw [x]; exact g
theorem cells_has {p : PP} {ws : List Str} {c : Str} (hl : ws.length = p.sources.length) (h : c ∈ p.cells) : (getE (known0 p ws) c).isSome = true := by
  unfold PP.cells at h
  exact tell_has _ _ _ _ ((List.mem_append.mp h).imp (fun x => zip_has x hl.symm) id)
theorem known_in {p : PP} {m : Nat} {ws : List Str} (ok : p.Ok m) (hl : ws.length = p.sources.length) (hw : ∀ z ∈ ws, z ∈ p.words) : ∀ c ∈ p.cells, knF (known0 p ws) c ∈ p.words := fun c hc =>
  knF_in (tell_in (d0_in ok) ok.der (fun c hc => zip_has hc hl.symm) fun e he => hw _ (List.of_mem_zip he).2) (cells_has hl hc)
theorem eff_in {p : PP} {m : Nat} {ws : List Str} {q : Str × List Td.Row} (ok : p.Ok m) (hm : m ≤ 16) (hl : ws.length = p.sources.length) (hw : ∀ z ∈ ws, z ∈ p.words) (hq : q ∈ p.effects) : RsIn ⟨true, p.words, p.sources, p.cells⟩ (effRun p ws q) ∧ (effRun p ws q).Few 16 := by
  obtain ⟨i, hi⟩ := List.getElem?_of_mem hq
  obtain ⟨h1, h2⟩ := okEff_get ok.eff hi
  refine ⟨inn_Rs (S := ⟨true, p.words, p.sources, p.cells⟩) (known_in ok hl hw) (d0_in ok) q.2 1 _ h1 (inn0 (d0_in ok)), ?_⟩
  have := few_Rs (knF (known0 p ws)) (d0 p) q.2 (rs0 (d0 p)) 0 (few0 _)
  exact this.mono (by omega)
/-- a machine of the program -/
structure PM.Good (p : PP) (M : PM) : Prop where
  wl : M.ws.length = p.sources.length
  ww : ∀ z ∈ M.ws, z ∈ p.words
  nl : M.nt.length = p.effects.length
  nn : ∀ l, some l ∈ M.nt → l.length ≤ 16 ∧ ∀ c ∈ l, c.1 ∈ p.cells ∧ c.2 ∈ p.words
  wt : ∀ c ∈ M.wt, c.1 ∈ p.sources ∧ c.2 ∈ p.words
  lg : ∀ c ∈ M.lg, c.1 ∈ p.effects.map (·.1) ∧ c.2 ∈ p.words
theorem good_run {p : PP} {m : Nat} {M : PM} {i : Nat} {q : Str × List Td.Row} (ok : p.Ok m) (hm : m ≤ 16) (h : M.Good p) (hq : q ∈ p.effects) : (runOne p i q M).Good p := by
  obtain ⟨a, b⟩ := eff_in ok hm h.wl h.ww hq
  refine ⟨h.wl, h.ww, (List.length_set ..).trans h.nl, fun l hl => ?_, fun c hc => ?_, fun c hc => ?_⟩
  · rcases List.mem_or_eq_of_mem_set hl with x | x
    · exact h.nn l x
    · cases x
      exact ⟨b.no, a.no⟩
  · rcases List.mem_append.mp hc with x | x
    · exact h.wt c x
    · exact a.wr c x
  · rcases List.mem_append.mp hc with x | x
    · exact h.lg c x
    · obtain ⟨z, hz, rfl⟩ := List.mem_map.mp x
      exact ⟨List.mem_map.mpr ⟨q, hq, rfl⟩, a.sa z hz⟩
theorem good_look {p : PP} {m most : Nat} (ok : p.Ok m) (hm : m ≤ 16) : ∀ (qs : List (Str × List Td.Row)) (i : Nat) (M M' : PM), (∀ q ∈ qs, q ∈ p.effects) → M.Good p → lookFrom p most i qs M = some M' → M'.Good p
  | [], i, M, M', _, h, e => by
    unfold lookFrom at e
    cases e
    exact h
  | q :: r, i, M, M', hq, h, e => by
    unfold lookFrom at e
    have hr := fun x hx => hq x (List.mem_cons_of_mem _ hx)
    split at e
    · split at e
      · cases e
      · exact good_look ok hm r (i + 1) _ M' hr (good_run ok hm h (hq q List.mem_cons_self)) e
    · exact good_look ok hm r (i + 1) M M' hr h e
theorem setW_in {p : PP} {ws : List Str} {c : Str × Str} (h : ∀ z ∈ ws, z ∈ p.words) (hc : c.2 ∈ p.words) : ∀ z ∈ setW p ws c, z ∈ p.words := fun z hz => by
  obtain ⟨e, he, rfl⟩ := List.mem_map.mp hz
  by_cases x : e.1 = c.1
  · rw [if_pos x]; exact hc
  · rw [if_neg x]; exact h _ (List.of_mem_zip he).2
theorem setWs_in {p : PP} : ∀ (cs : Td.Env) {ws : List Str}, (∀ z ∈ ws, z ∈ p.words) → (∀ c ∈ cs, c.2 ∈ p.words) → ∀ z ∈ cs.foldl (setW p) ws, z ∈ p.words
  | [], _, h, _ => h
  | c :: r, ws, h, hc => setWs_in r (setW_in h (hc c List.mem_cons_self)) fun x hx => hc x (List.mem_cons_of_mem _ hx)
theorem good_write {p : PP} {m most : Nat} {M M' : PM} {wr : Td.Env} (ok : p.Ok m) (hm : m ≤ 16) (h : M.Good p) (hw : ∀ c ∈ wr, c.1 ∈ p.sources ∧ c.2 ∈ p.words) (e : writeF p most wr M = some M') : M'.Good p := by
  unfold writeF at e
  split at e
  · cases e; exact h
  · refine good_look ok hm p.effects 0 { M with ws := (counting p M.ws wr).foldl (setW p) M.ws } M' (fun q hq => hq) ⟨setWs_len _ h.wl, setWs_in _ h.ww fun c hc => (hw c (List.mem_filter.mp hc).1).2, h.nl, h.nn, h.wt, h.lg⟩ e
theorem good_rest {p : PP} {m most : Nat} (ok : p.Ok m) (hm : m ≤ 16) : ∀ (n : Nat) (M M' : PM), M.Good p → restF p most n M = some M' → M'.Good p
  | 0, M, M', h, e => by
    unfold restF at e
    cases e
    exact h
  | n + 1, M, M', h, e => by
    unfold restF at e
    split at e
    · cases e; exact h
    · rename_i c r e0
      cases e1 : writeF p most [c] { M with wt := r } with
      | none => rw [e1] at e; cases e
      | some M1 =>
        rw [e1] at e
        have g : ({ M with wt := r } : PM).Good p := ⟨h.wl, h.ww, h.nl, h.nn, fun x hx => h.wt x (by rw [e0]; exact List.mem_cons_of_mem _ hx), h.lg⟩
        refine good_rest ok hm n M1 M' (good_write ok hm g (fun x hx => ?_) e1) e
        rw [List.mem_singleton.mp hx]
        exact h.wt c (by rw [e0]; exact List.mem_cons_self)
end K68
namespace K68
open PySem PySem.Spec PyProof.Rows L2 Td
/-- what a plain machine owns lay nowhere in H0 -/
structure PlA.New (A : PlA) (H0 : Hp) : Prop where
  x : H0 A.x = none
  hd : H0 A.hd = none
  nl : H0 A.nl = none
  wl : H0 A.wl = none
  ll : H0 A.ll = none
def spLook (K : PySem.W.Frag) (CM CP CT : Addr) : Sp := fun vs H Q E => ∃ (A : PlA) (p : PP) (m most : Nat) (M : PM) (H0 : Hp), vs = [.ref A.x] ∧ PlAt K H CM CP A p most M ∧ Same H0 H ∧ A.New H0 ∧ ProgAt K H0 CP A.pa p ∧ p.Ok m ∧ m ≤ 16 ∧ M.Good p ∧ M.rn ≤ most ∧ M.pot most ≤ 300 ∧ M.lg.length + 16 * (most - M.rn) ≤ 300 ∧
  (∀ M', lookFrom p most 0 p.effects M = some M' → ∀ H', Same H0 H' → PlAt K H' CM CP A p most M' → Q .non H') ∧ (lookFrom p most 0 p.effects M = none → Rz CT "most" (.int (most : Nat)) H0 E)
section
variable {K : PySem.W.Frag} {H : Hp} {CM CP : Addr} {A : PlA} {p : PP} {most : Nat} {M : PM}
theorem PlAt.setRuns (h : PlAt K H CM CP A p most M) {n : Nat} (hp : ProgAt K (upd H A.x (.ins CM A.dx (A.flds most n))) CP A.pa p) : PlAt K (upd H A.x (.ins CM A.dx (A.flds most n))) CM CP A p most { M with rn := n } := by
  obtain ⟨a, b, c, ⟨x1, d1, d2⟩, ⟨x2, e1, e2⟩, ⟨x3, f1, f2⟩, n1, n2, n3⟩ := h
  have tk : TK H (upd H A.x (.ins CM A.dx (A.flds most n))) := TK.upd (by rw [a]; trivial)
  exact ⟨upd_same, hp, by rw [upd_ne (ne_of c a (by intro z; cases z))]; exact c, ⟨x1, by rw [upd_ne (ne_of d1 a (by intro z; cases z))]; exact d1, TnAll.keep tk d2⟩, ⟨x2, by rw [upd_ne (ne_of e1 a (by intro z; cases z))]; exact e1, TnAll.keep tk e2⟩, ⟨x3, by rw [upd_ne (ne_of f1 a (by intro z; cases z))]; exact f1, TnAll.keep tk f2⟩, n1, n2, n3⟩
theorem PlAt.setHeld (h : PlAt K H CM CP A p most M) {ws : List Str} (hp : ProgAt K (upd H A.hd (.dK (kv (p.sources.zip ws)))) CP A.pa p) : PlAt K (upd H A.hd (.dK (kv (p.sources.zip ws)))) CM CP A p most { M with ws := ws } := by
  obtain ⟨a, b, c, ⟨x1, d1, d2⟩, ⟨x2, e1, e2⟩, ⟨x3, f1, f2⟩, n1, n2, n3⟩ := h
  have tk : TK H (upd H A.hd (.dK (kv (p.sources.zip ws)))) := TK.upd (by rw [c]; trivial)
  exact ⟨by rw [upd_ne (ne_of a c (by intro z; cases z))]; exact a, hp, upd_same, ⟨x1, by rw [upd_ne (ne_of d1 c (by intro z; cases z))]; exact d1, TnAll.keep tk d2⟩, ⟨x2, by rw [upd_ne (ne_of e1 c (by intro z; cases z))]; exact e1, TnAll.keep tk e2⟩, ⟨x3, by rw [upd_ne (ne_of f1 c (by intro z; cases z))]; exact f1, TnAll.keep tk f2⟩, n1, n2, n3⟩
theorem PlAt.setNotes (h : PlAt K H CM CP A p most M) {xs : List V} {nt : List (Option Td.Env)} (hx : TnAll K H xs (nt.map noteD)) (hp : ProgAt K (upd H A.nl (.lst xs)) CP A.pa p) : PlAt K (upd H A.nl (.lst xs)) CM CP A p most { M with nt := nt } := by
  obtain ⟨a, b, c, ⟨x1, d1, d2⟩, ⟨x2, e1, e2⟩, ⟨x3, f1, f2⟩, n1, n2, n3⟩ := h
  have tk : TK H (upd H A.nl (.lst xs)) := TK.upd (by rw [d1]; trivial)
  exact ⟨by rw [upd_ne (ne_of a d1 (by intro z; cases z))]; exact a, hp, by rw [upd_ne (ne_of c d1 (by intro z; cases z))]; exact c, ⟨xs, upd_same, TnAll.keep tk hx⟩, ⟨x2, by rw [upd_ne (Ne.symm n1)]; exact e1, TnAll.keep tk e2⟩, ⟨x3, by rw [upd_ne (Ne.symm n2)]; exact f1, TnAll.keep tk f2⟩, n1, n2, n3⟩
theorem PlAt.setWait (h : PlAt K H CM CP A p most M) {xs : List V} {wt : Td.Env} (hx : TnAll K H xs (wt.map wrD)) (hp : ProgAt K (upd H A.wl (.lst xs)) CP A.pa p) : PlAt K (upd H A.wl (.lst xs)) CM CP A p most { M with wt := wt } := by
  obtain ⟨a, b, c, ⟨x1, d1, d2⟩, ⟨x2, e1, e2⟩, ⟨x3, f1, f2⟩, n1, n2, n3⟩ := h
  have tk : TK H (upd H A.wl (.lst xs)) := TK.upd (by rw [e1]; trivial)
  exact ⟨by rw [upd_ne (ne_of a e1 (by intro z; cases z))]; exact a, hp, by rw [upd_ne (ne_of c e1 (by intro z; cases z))]; exact c, ⟨x1, by rw [upd_ne n1]; exact d1, TnAll.keep tk d2⟩, ⟨xs, upd_same, TnAll.keep tk hx⟩, ⟨x3, by rw [upd_ne (Ne.symm n3)]; exact f1, TnAll.keep tk f2⟩, n1, n2, n3⟩
theorem PlAt.setLog (h : PlAt K H CM CP A p most M) {xs : List V} {lg : Td.Env} (hx : TnAll K H xs (lg.map wrD)) (hp : ProgAt K (upd H A.ll (.lst xs)) CP A.pa p) : PlAt K (upd H A.ll (.lst xs)) CM CP A p most { M with lg := lg } := by
  obtain ⟨a, b, c, ⟨x1, d1, d2⟩, ⟨x2, e1, e2⟩, ⟨x3, f1, f2⟩, n1, n2, n3⟩ := h
  have tk : TK H (upd H A.ll (.lst xs)) := TK.upd (by rw [f1]; trivial)
  exact ⟨by rw [upd_ne (ne_of a f1 (by intro z; cases z))]; exact a, hp, by rw [upd_ne (ne_of c f1 (by intro z; cases z))]; exact c, ⟨x1, by rw [upd_ne n2]; exact d1, TnAll.keep tk d2⟩, ⟨x2, by rw [upd_ne n3]; exact e1, TnAll.keep tk e2⟩, ⟨xs, upd_same, TnAll.keep tk hx⟩, n1, n2, n3⟩
theorem fl_runs (A : PlA) (most rn : Nat) : putF "runs" (.int ((rn : Nat) + 1)) (A.flds most rn) = A.flds most (rn + 1) := by kernel_rfl
theorem tn_set : ∀ {xs : List V} {ds : List PyData} {v : V} {d : PyData} {i : Nat}, TnAll K H xs ds → Tn K H v d → TnAll K H (xs.set i v) (ds.set i d)
  | [], _, _, _, _, .nil, _ => .nil
  | _ :: _, _, _, _, 0, .cons _ b, hv => .cons hv b
  | _ :: _, _, _, _, i + 1, .cons a b, hv => .cons a (tn_set (i := i) b hv)
theorem list_map_set {α β : Type} (f : α → β) (l : List α) (i : Nat) (x : α) : (l.set i x).map f = (l.map f).set i (f x) := List.map_set
theorem n_len {α : Type} {xs : List V} {l : List α} {f : α → PyData} (h : TnAll K H xs (l.map f)) : xs.length = l.length := by rw [TnAll.length h, List.length_map]
theorem ne_str (a b : Str) : (!decide (V.str a = V.str b)) = decide (a ≠ b) := by
  by_cases h : a = b
  · rw [h, decide_eq_true rfl, decide_eq_false (fun z => z rfl)]; rfl
  · rw [decide_eq_false (fun e => h (by injection e)), decide_eq_true h]; rfl
theorem ixN_nat {n i : Nat} (h : i < n) : ixN n (i : Int) = some i := by
  unfold ixN
  rw [if_pos (by omega), if_pos (by omega), Int.toNat_natCast]
theorem valsA (vn vp vs vw : Addr) (vo : V) : valV (ansK vn vp vs vw vo) (.inr "notes" : Key) = some (.ref vn) ∧ valV (ansK vn vp vs vw vo) (.inr "says" : Key) = some (.ref vs) ∧ valV (ansK vn vp vs vw vo) (.inr "writes" : Key) = some (.ref vw) := ⟨by kernel_rfl, by kernel_rfl, by kernel_rfl⟩
end
/-- a test worked out once, both ways behind it -/
theorem if_by {c0 : TT} {t u : TS} {D : Ends} {σ : L2.St} {H : Hp} {b : Bool} {R : Hp → Prop} (test : ∀ Q : Bool → Hp → Prop, (∀ H1, R H1 → Q b H1) → c0 σ H Q) (yes : b = true → ∀ H1, R H1 → t D σ H1) (no : b = false → ∀ H1, R H1 → u D σ H1) : tIfS c0 t u D σ H :=
  test _ fun H1 h => by
    cases b with
    | true => exact if_true_of rfl (yes rfl H1 h)
    | false => exact if_false_of rfl (no rfl H1 h)
theorem lookFrom_drop {p : PP} {most i : Nat} {qs : List (Str × List Td.Row)} {q : Str × List Td.Row} {M : PM} (h : qs[i]? = some q) : lookFrom p most i (qs.drop i) M = if stirred p M.ws ((M.nt[i]?).getD none) = true then (if M.rn = most then none else lookFrom p most (i + 1) (qs.drop (i + 1)) (runOne p i q M)) else lookFrom p most (i + 1) (qs.drop (i + 1)) M := by
  obtain ⟨hi, e⟩ := List.getElem?_eq_some_iff.mp h
  rw [List.drop_eq_getElem_cons hi, e]
  rfl
section
variable {P : Program} {w : World} {K : PySem.W.Frag} {mg : Str → Option Value} {base : Heap}
theorem ok_TooManyRuns (T : Tops w K mg) : FnOk P w K mg base CX0 1 T.a_TooManyRuns_init T.d_TooManyRuns_init ["self", "most"] (spExc K T.c_TooManyRuns "most") := by
  refine T.F_TooManyRuns_init.ok sc_TooManyRuns_init (fun vs H Q E h => ?_) (fun cdv A outer s H vs Q E hr h => ?_)
  · obtain ⟨a, y, rfl, _⟩ := h
    rfl
  obtain ⟨a, y, rfl, ha, q⟩ := h
  exact ⟨_, (pss_one (ps_ost (pv 0) (pv 1))), _, rfl, _, rfl, a, T.c_TooManyRuns, rfl, T.x_TooManyRuns, T.n_TooManyRuns_most, .inl ⟨ha, fun dx h1 h2 => q dx _ h1 h2 rfl⟩⟩
theorem ok_look (T : Tops w K mg) (G_PlainMachine_true_now : FnOk P w K mg base CX0 9 T.a_PlainMachine_true_now T.d_PlainMachine_true_now ["self"] (spTrueNow K T.c_PlainMachine T.c_Program))
    (G_run_truly : FnOk P w K mg base CX0 7 T.a_run_truly T.d_run_truly ["program", "known", "rows"] (spTruly K T.c_Program T.c_TrueRun))
    (G_Record_parts : FnOk P w K mg base CX0 1 T.a_Record_parts T.d_Record_parts ["self"] (spRecParts K T.c_TrueRun))
    (G_TooManyRuns_init : FnOk P w K mg base CX0 1 T.a_TooManyRuns_init T.d_TooManyRuns_init ["self", "most"] (spExc K T.c_TooManyRuns "most")) :
    FnOk P w K mg base (L2.CX P w) 10 T.a_PlainMachine_look_at_effects T.d_PlainMachine_look_at_effects ["self"] (spLook K T.c_PlainMachine T.c_Program T.c_TooManyRuns) := by
  refine T.F_PlainMachine_look_at_effects.okX sc_PlainMachine_look_at_effects (fun vs H Q E h => ?_) (fun cdv AR outer s H vs Q E hr h => ?_)
  · obtain ⟨A, p, m, most, M, H0, rfl, _⟩ := h
    rfl
  obtain ⟨A, p, m, most, M, H0, rfl, hA, hs, hn, hP, ok, hm, hg, hrn, hpot, hlg, q, r⟩ := h
  refine ⟨_, (pss_cons (ps_set (i := 1) sc_PlainMachine_look_at_effects.nd rfl (Or.inr rfl) (pe_meth0 (pv 0) T.l_PlainMachine T.t_PlainMachine_true_now G_PlainMachine_true_now (hr.mono (by omega)) T.b_PlainMachine_true_now .nil pass0))
    (pss_one (ps_for (passes_of rfl) rfl (pi_enumT rfl T.z_enumerate (pa_cons (pe_fld (pe_fld (pv 0) rfl) rfl) pa_nil)) (pg_tup rfl (pgs_cons (pg_name (i := 2) sc_PlainMachine_look_at_effects.nd rfl (Or.inl rfl)) (pgs_cons (pg_tup rfl (pgs_cons (pg_name (i := 3) sc_PlainMachine_look_at_effects.nd rfl (Or.inr rfl)) (pgs_cons (pg_name (i := 4) sc_PlainMachine_look_at_effects.nd rfl (Or.inl rfl)) pgs_nil))) pgs_nil))) (pss_cons (ps_set (i := 5) sc_PlainMachine_look_at_effects.nd rfl (Or.inl rfl) (pe_ix ix_list (pe_fld (pv 0) rfl) (pv 2) (fun _ _ => rfl)))
    (pss_one (ps_if (PW.pt (pw_or (pt_cmpR op_isN (pv 5) pe_non (nomark _)) (pw_or1 (pt_val (pe_callB (cr_any rfl) rfl T.z_any (by decide +kernel) (pa_cons (pe_lc (own := [(("cell" : Str), 7), (("word" : Str), 8)]) (wi := (iTup K (tVar 5))) (g := gTup K 2 (gCons (gName 7) (gCons (gName 8) gNil))) (tt := tYes) (te := (tOp rNe (tDGet (tVar 1) (tVar 7)) (tVar 8))) rfl sc_PlainMachine_look_at_effects.nd (pi_tup (pv 5)) (blkOk_by (own := [(("cell" : Str), 7), (("word" : Str), 8)]) (N := N_PlainMachine_look_at_effects) (sc := defScope s_PlainMachine_look_at_effects) (by decide +kernel)) (fun _ _ _ _ _ => (pg_tup rfl (pgs_cons (pg_name (i := 7) sc_PlainMachine_look_at_effects.nd rfl (Or.inl rfl)) (pgs_cons (pg_name (i := 8) sc_PlainMachine_look_at_effects.nd rfl (Or.inl rfl)) pgs_nil)))) (fun _ _ _ _ _ => pts_nil) (fun _ _ _ _ _ => (pe_cmpR op_ne (pe_dget (hu_of hr) (pv 1) (pv 7) (fun _ _ => rfl)) (pv 8) (nomark _)))) pa_nil)))))) (pss_cons (ps_if (pt_cmpR op_eq (pe_fld (pv 0) rfl) (pe_fld (pv 0) rfl) (nomark _)) (pss_one (ps_raise rfl (takes_of rfl rfl rfl rfl) (pmk_oex T.x_TooManyRuns T.xi_TooManyRuns T.xt_TooManyRuns G_TooManyRuns_init (hr.mono (by omega)) T.b_TooManyRuns_init .nil pass0 rfl T.m_TooManyRuns (pa_cons (pe_fld (pv 0) rfl) pa_nil)))) pss_nil)
    (pss_cons (ps_fldaug (pv 0) pe_int in_add)
    (pss_cons (ps_set (i := 6) sc_PlainMachine_look_at_effects.nd rfl (Or.inl rfl) (pe_meth0 (pe_call G_run_truly (hr.mono (by omega)) rfl T.m_run_truly T.F_run_truly.kp T.b_run_truly .nil pass0 (pa_cons (pe_fld (pv 0) rfl) (pa_cons (pv 1) (pa_cons (pv 4) pa_nil)))) T.l_TrueRun T.t_TrueRun_parts G_Record_parts (hr.mono (by omega)) T.b_Record_parts .nil pass0))
    (pss_cons (ps_asg (pe_dget (hu_of hr) (pv 6) pe_str (fun _ _ => rfl)) (pg_sub (pe_fld (pv 0) rfl) (pv 2) set_list))
    (pss_cons (ps_expr (pe_bm PySem.F.plainAttrs_list PySem.F.slot_list_extend PySem.F.type_list_extend mt_extend (pe_fld (pv 0) rfl) (pa_cons (pe_lc (own := [(("word" : Str), 8)]) (wi := (iTup K (tDGet (tVar 6) (tC (.str "says"))))) (g := gName 8) (tt := tYes) (te := (tTup (tCons (tVar 3) (tCons (tVar 8) tNil)))) rfl sc_PlainMachine_look_at_effects.nd (pi_tup (pe_dget (hu_of hr) (pv 6) pe_str (fun _ _ => rfl))) (blkOk_by (own := [(("word" : Str), 8)]) (N := N_PlainMachine_look_at_effects) (sc := defScope s_PlainMachine_look_at_effects) (by decide +kernel)) (fun _ _ _ _ _ => (pg_name (i := 8) sc_PlainMachine_look_at_effects.nd rfl (Or.inl rfl))) (fun _ _ _ _ _ => pts_nil) (fun _ _ _ _ _ => (pe_tup (pa_cons (pv 3) (pa_cons (pv 8) pa_nil))))) pa_nil)))
    (pss_one (ps_expr (pe_bm PySem.F.plainAttrs_list PySem.F.slot_list_extend PySem.F.type_list_extend mt_extT (pe_fld (pv 0) rfl) (pa_cons (pe_dget (hu_of hr) (pv 6) pe_str (fun _ _ => rfl)) pa_nil))))))))) pss_nil)))))), ?_⟩
  refine ⟨_, rfl, A.x, A.dx, _, rfl, hA.ob, by kernel_rfl, A, p, m, most, M, rfl, hA, ok, hm, hg.wl, fun kd H1 s1 hkd => ?_⟩
  obtain ⟨pdx, aw, as, vd, ve, ⟨dn, en, e, hdn, hen⟩, h1, h2, h3, h4⟩ := hP.ex
  obtain ⟨ae, ys, rfl, hE, hel, hex⟩ := pairs_at h4
  have s01 := hs.trans s1
  obtain ⟨fp, fm, fh, fn, fw, fl, fr⟩ := fl_pl A most M.rn
  refine ⟨_, rfl, A.x, _, A.dx, _, _, rfl, s1 _ _ hA.ob, T.l_PlainMachine, T.n_PlainMachine_program, fp, A.pa, _, pdx, _, _, rfl, s01 _ _ e, T.l_Program, T.n_Program_effects, progF_effects .., ae, _, rfl, SqT.same s01 hE, for_enumT (K := K) (a := ae) (xs := ys)
    (fun i σ H' => ∃ (v2 v3 v4 v5 v6 : Option V) (M1 : PM), σ = [some (.ref A.x), some (.ref kd), v2, v3, v4, v5, v6, none, none] ∧ Same H0 H' ∧ PlAt K H' T.c_PlainMachine T.c_Program A p most M1 ∧ H' kd = some (.dK (kv (known0 p M.ws))) ∧
      lookFrom p most 0 p.effects M = lookFrom p most i (p.effects.drop i) M1 ∧ M1.ws = M.ws ∧ M1.Good p ∧ M1.rn ≤ most ∧ M1.pot most ≤ 300 ∧ M1.lg.length + 16 * (most - M1.rn) ≤ 300)
    ⟨none, none, none, none, none, M, rfl, s01, hA.same s1, hkd, rfl, rfl, hg, hrn, hpot, hlg⟩ (fun i σ H' _ ⟨_, _, _, _, _, _, _, h, _⟩ => SqT.same h hE) ?_ ?_⟩
  · rintro i x σ H' t hi ⟨v2, v3, v4, v5, v6, M1, rfl, s0', hA1, hk1, eM, ew, hg1, er1, ep1, el1⟩ ht
    obtain ⟨qq, b, vr, hq, rfl, hB, hR⟩ := hex i x hi
    rw [lookFrom_drop hq] at eM
    have z := Same.new ht (.tup [V.int (i : Nat), .ref b])
    have s2 := s0'.trans z
    refine ⟨t, _, rfl, SqT.of upd_same, rfl, _, _, rfl, _, _, rfl, ⟨b, _, rfl, SqT.same s2 hB, rfl, _, _, rfl, _, _, rfl, rfl, ?_⟩⟩
    have hA2 := hA1.same z
    have hk2 := z _ _ hk1
    generalize upd H' t (.tup [V.int (i : Nat), .ref b]) = H2 at z s2 hA2 hk2
    obtain ⟨ns, n1, n2⟩ := hA2.nt
    obtain ⟨gp, gm, gh, gn, gw, gl, gr⟩ := fl_pl A most M1.rn
    have hqm := List.mem_of_getElem? hq
    have il : i < M1.nt.length := by have := (List.getElem?_eq_some_iff.mp hq).1; have := hg1.nl; omega
    obtain ⟨o, ho⟩ : ∃ o, M1.nt[i]? = some o := ⟨_, List.getElem?_eq_getElem il⟩
    rw [ho, Option.getD_some] at eM
    obtain ⟨nv, hnv, hnd⟩ : ∃ nv, ns[i]? = some nv ∧ Tn K H2 nv (noteD o) := by
      have hl2 := n2.length
      rw [List.length_map] at hl2
      obtain ⟨d, hd, hdx⟩ := TnAll.get n2 (i := i) (v := ns[i]'(by omega)) (List.getElem?_eq_getElem _)
      rw [List.getElem?_map, ho] at hd
      cases hd
      exact ⟨_, List.getElem?_eq_getElem _, hdx⟩
    refine ⟨rfl, _, rfl, A.x, _, A.dx, _, _, rfl, hA2.ob, T.l_PlainMachine, T.n_PlainMachine_notes, gn, _, rfl, A.nl, _, _, nv, rfl, rfl, SqL.of n1, atI_nat hnv, ?_⟩
    dsimp only [gName]
    show tIfS _ _ _ _ [some (.ref A.x), some (.ref kd), some (.int (i : Nat)), some (.str qq.1), some vr, some nv, v6, none, none] _
    refine if_by (b := stirred p M1.ws o) (R := fun H3 => Same H2 H3) (fun Q' q' => ?_) (fun hb H3 s3 => ?_) (fun hb H3 s3 => ?_)
    · cases o with
      | none =>
        cases hnd
        exact ⟨_, rfl, rfl, _, rfl, if_true_of rfl (q' _ (Same.refl _))⟩
      | some l =>
        obtain ⟨na, nx, rfl, hN, hX⟩ := Tn.tup_inv hnd
        refine ⟨_, rfl, rfl, _, rfl, if_false_of rfl ?_⟩
        have nl := n_len hX
        obtain ⟨l16, lin⟩ := hg1.nn l (List.mem_of_getElem? ho)
        refine ⟨_, rfl, na, rfl, ⟨_, hN⟩, fun D hD => fiS_tup (nx.zip l) Prod.fst (fun _ => true) (fun c => V.bl (!decide (V.str (knF (known0 p M.ws) c.2.1) = V.str c.2.2))) hN (List.map_fst_zip (Nat.le_of_eq nl)).symm (by rw [List.length_zip]; omega) hD ?_ ?_⟩
        · rintro j c H3 hc s3 Yes No yes no
          obtain ⟨c1, c2⟩ := List.getElem?_zip_eq_some.mp hc
          obtain ⟨d, hd, hdx⟩ := TnAll.get hX c1
          rw [List.getElem?_map, c2] at hd
          cases hd
          obtain ⟨b2, es, e2, hB2, hE2⟩ := Tn.tup_inv hdx
          obtain rfl : es = [V.str c.2.1, V.str c.2.2] := TnAll.strs_inv (zs := [c.2.1, c.2.2]) hE2
          rw [e2]
          refine ⟨b2, _, rfl, SqT.same s3 hB2, rfl, _, _, rfl, _, _, rfl, rfl, rfl, tYes_of ?_⟩
          exact ⟨_, rfl, _, rfl, kd, _, rfl, get_known (s3 _ _ hk2) (cells_has hg.wl (lin _ (List.mem_of_getElem? c2)).1), _, rfl, rfl, yes rfl _ (Same.refl _)⟩
        · rintro H3 s3 hb
          refine ⟨D, (nx.zip l).map fun c => !decide (V.str (knF (known0 p M.ws) c.2.1) = V.str c.2.2), rfl, SqL.of (by rw [hb, Td.filter_all, List.map_map]; rfl), _, rfl, ?_⟩
          have eb : ((nx.zip l).map fun c => !decide (V.str (knF (known0 p M.ws) c.2.1) = V.str c.2.2)).any id = stirred p M1.ws (some l) := by
            rw [show ((nx.zip l).map fun c => !decide (V.str (knF (known0 p M.ws) c.2.1) = V.str c.2.2)) = ((nx.zip l).map Prod.snd).map fun c => !decide (V.str (knF (known0 p M.ws) c.1) = V.str c.2) by rw [List.map_map]; rfl, List.map_snd_zip (Nat.le_of_eq nl.symm), List.any_map, ew]
            show _ = l.any fun c => decide (knF (known0 p M.ws) c.1 ≠ c.2)
            congr 1
            funext c
            exact ne_str _ _
          rw [eb]
          exact q' _ s3
    · rw [if_pos hb] at eM
      have s3' := s2.trans s3
      have hA3 := hA2.same s3
      have ob3 := hA3.ob
      refine ⟨_, rfl, A.x, _, A.dx, _, _, rfl, ob3, T.l_PlainMachine, T.n_PlainMachine_runs, gr, _, rfl, A.x, _, A.dx, _, _, rfl, ob3, T.l_PlainMachine, T.n_PlainMachine_most, gm, rfl, _, rfl, ?_⟩
      by_cases hm2 : M1.rn = most
      · rw [if_pos hm2] at eM
        refine if_true_of (by rw [hm2]; exact decide_eq_true rfl) ?_
        exact ⟨_, rfl, A.x, _, A.dx, _, _, rfl, ob3, T.l_PlainMachine, T.n_PlainMachine_most, gm, made_one ((r eM).later s3')⟩
      rw [if_neg hm2] at eM
      refine if_false_of (decide_eq_false fun e => hm2 (by injection e with e; exact Int.ofNat.inj e)) ?_
      refine ⟨_, rfl, A.x, _, A.dx, _, _, rfl, ob3, T.l_PlainMachine, T.n_PlainMachine_runs, gr, _, _, rfl, rfl, A.dx, _, ob3, by show 7 < 1000; decide, ?_⟩
      rw [fl_runs]
      have s4 := own_same (o := .ins T.c_PlainMachine A.dx (A.flds most (M1.rn + 1))) s3' hn.x
      have hA4 := hA3.setRuns (n := M1.rn + 1) (hP.same s4)
      have hk4 : upd H3 A.x (.ins T.c_PlainMachine A.dx (A.flds most (M1.rn + 1))) kd = some (.dK (kv (known0 p M.ws))) := by rw [upd_ne (ne_of (s3 _ _ hk2) ob3 (by intro z; cases z))]; exact s3 _ _ hk2
      dsimp only
      generalize upd H3 A.x (.ins T.c_PlainMachine A.dx (A.flds most (M1.rn + 1))) = H4 at s4 hA4 hk4
      obtain ⟨S, k1, k2, k3⟩ := body_scope (ws := M.ws) ok hg.wl (List.mem_append_right _ hqm)
      refine ⟨_, rfl, A.x, _, A.dx, _, _, rfl, hA4.ob, T.l_PlainMachine, T.n_PlainMachine_program, (fl_pl A most (M1.rn + 1)).1, _, rfl, _, rfl, A.pa, kd, vr, p, m, qq.2, _, S, rfl, hA4.pr, ok, hk4, Dp.same s4 hR.dp, k1, k2, by omega, fun A' H5 hkd' hd' hRun => ?_⟩
      have eR : (runRs (knF (known0 p M.ws)) (d0 p) qq.2 (rs0 (d0 p))).1 = effRun p M1.ws qq := by unfold effRun; rw [ew]
      rw [eR] at hRun
      obtain ⟨dx2, e2⟩ := hRun.ob
      obtain ⟨xw, w1, w2⟩ := hRun.wr
      refine ⟨A'.ra, dx2, _, rfl, e2, fl_none2 A' _, A', dx2, _, true, rfl, e2, hRun.no, hRun.pe, hRun.sa, ⟨xw, w1, w2⟩, fun a H6 s6 ha hAns => ?_⟩
      obtain ⟨vn, vp, vs', vw, ea, tn, tp, ts, tw⟩ := hAns.ex
      have s06 := (s4.trans hRun.same).trans s6
      have hA6 := (hA4.same hRun.same).same s6
      have hk6 := s6 _ _ (hRun.same _ _ hk4)
      obtain ⟨i16, f16⟩ := eff_in (q := qq) ok hm hg1.wl hg1.ww hqm
      have hg2 := good_run (i := i) ok hm hg1 hqm
      have g1 : DGet H6 a (.str "notes") (some (.ref vn)) := by have h := DGet.k (k := .inr "notes") ea; rw [(valsA ..).1] at h; exact h
      obtain ⟨ns6, n61, n62⟩ := hA6.nt
      have il6 : i < ns6.length := by rw [n_len n62]; exact il
      refine ⟨_, rfl, a, _, rfl, g1, _, rfl, A.x, _, A.dx, _, _, rfl, hA6.ob, T.l_PlainMachine, T.n_PlainMachine_notes, (fl_pl A most (M1.rn + 1)).2.2.2.1, _, rfl, A.nl, ns6, _, i, rfl, rfl, n61, ixN_nat il6, ?_⟩
      have nx : TnAll K H6 (ns6.set i (.ref vn)) ((M1.nt.set i (some (effRun p M1.ws qq).noted)).map noteD) := by rw [List.map_set]; exact tn_set n62 tn
      have s7 := own_same (o := .lst (ns6.set i (.ref vn))) s06 hn.nl
      have hA7 := hA6.setNotes nx (hP.same s7)
      have tk7 : TK H6 (upd H6 A.nl (.lst (ns6.set i (.ref vn)))) := TK.upd (by rw [n61]; trivial)
      have hk7 : upd H6 A.nl (.lst (ns6.set i (.ref vn))) kd = some (.dK (kv (known0 p M.ws))) := by rw [upd_ne (ne_of hk6 n61 (by intro z; cases z))]; exact hk6
      have ea7 : upd H6 A.nl (.lst (ns6.set i (.ref vn))) a = some (.dK (ansK vn vp vs' vw (wordV true (effRun p M1.ws qq).given))) := by rw [upd_ne (ne_of ea n61 (by intro z; cases z))]; exact ea
      have ts7 := Tn.keep tk7 ts
      have tw7 := Tn.keep tk7 tw
      dsimp only
      generalize upd H6 A.nl (.lst (ns6.set i (.ref vn))) = H7 at s7 hA7 hk7 ea7 ts7 tw7
      have g2 : DGet H7 a (.str "says") (some (.ref vs')) := by have h := DGet.k (k := .inr "says") ea7; rw [(valsA ..).2.1] at h; exact h
      obtain ⟨va, vx, e3, hVS, hVX⟩ := Tn.tup_inv ts7
      cases e3
      obtain rfl := TnAll.strs_inv hVX
      obtain ⟨lx, l1, l2⟩ := hA7.lg
      refine ⟨_, rfl, A.x, _, A.dx, _, _, rfl, hA7.ob, T.l_PlainMachine, T.n_PlainMachine_log, (fl_pl A most (M1.rn + 1)).2.2.2.2.2.1, .inl ⟨rfl, _, SqL.of l1⟩, _, rfl, a, _, rfl, g2, vs', rfl, ⟨_, hVS⟩, fun D hD => buS_tup (effRun p M1.ws qq).said V.str (fun _ => true) (fun H v z => Tn K H v (wrD (qq.1, z))) (fun k h => Tn.keep k h) hVS rfl (by have := f16.sa; omega) hD ?_ ?_⟩
      · rintro j z H8 hz s8 Yes No yes no
        refine ⟨rfl, tYes_of ?_⟩
        refine ⟨_, rfl, _, rfl, by show 2 ≤ sizeLine; decide, fun t1 ht1 => yes rfl _ _ (Same.new ht1 _) ?_⟩
        exact Tn.new (.cons (.str _) (.cons (.str _) .nil)) ht1
      · rintro H8 zs s8 hz hR8
        rw [Td.filter_all] at hR8
        have zx := hR8.tn
        have ll8 := s8 _ _ l1
        have hA8 := hA7.same s8
        have zl : zs.length = (effRun p M1.ws qq).said.length := hR8.len
        have fsa := f16.sa
        have fwr := f16.wr
        have lxl := n_len l2
        have lxl2 : lx.length = M1.lg.length := lxl
        have rnl : M1.rn < most := Nat.lt_of_le_of_ne er1 hm2
        refine ⟨A.ll, D, lx, zs, rfl, rfl, ll8, hz, Nat.le_of_lt (small1000 (by omega)), ?_⟩
        have s9 := own_same (o := .lst (lx ++ zs)) (s7.trans s8) hn.ll
        have lgx : TnAll K H8 (lx ++ zs) ((M1.lg ++ (effRun p M1.ws qq).said.map fun z => (qq.1, z)).map wrD) := by
          rw [List.map_append, List.map_map]
          exact TnAll.append (TnAll.keep (TK.of_same s8) l2) zx
        have hA9 := hA8.setLog lgx (hP.same s9)
        have tk9 : TK H8 (upd H8 A.ll (.lst (lx ++ zs))) := TK.upd (by rw [ll8]; trivial)
        have hk9 : upd H8 A.ll (.lst (lx ++ zs)) kd = some (.dK (kv (known0 p M.ws))) := by rw [upd_ne (ne_of (s8 _ _ hk7) ll8 (by intro z; cases z))]; exact s8 _ _ hk7
        have ea9 : upd H8 A.ll (.lst (lx ++ zs)) a = some (.dK (ansK vn vp vs' vw (wordV true (effRun p M1.ws qq).given))) := by rw [upd_ne (ne_of (s8 _ _ ea7) ll8 (by intro z; cases z))]; exact s8 _ _ ea7
        have tw9 := Tn.keep tk9 (Tn.same s8 tw7)
        dsimp only
        generalize upd H8 A.ll (.lst (lx ++ zs)) = H9 at s9 hA9 hk9 ea9 tw9
        have g3 : DGet H9 a (.str "writes") (some (.ref vw)) := by have h := DGet.k (k := .inr "writes") ea9; rw [(valsA ..).2.2] at h; exact h
        obtain ⟨vb, wz, e4, hWS, hWX⟩ := Tn.tup_inv tw9
        cases e4
        obtain ⟨wx, y1, y2⟩ := hA9.wt
        have wxl : wx.length = M1.wt.length := n_len y2
        have wzl := n_len hWX
        have epp : M1.wt.length + 16 * (most - M1.rn) ≤ 300 := ep1
        refine ⟨_, rfl, A.x, _, A.dx, _, _, rfl, hA9.ob, T.l_PlainMachine, T.n_PlainMachine_waiting, (fl_pl A most (M1.rn + 1)).2.2.2.2.1, .inl ⟨rfl, _, SqL.of y1⟩, _, rfl, a, _, rfl, g3, A.wl, vw, wx, wz, rfl, rfl, y1, hWS, Nat.le_of_lt (small1000 (by omega)), ?_⟩
        have s10 := own_same (o := .lst (wx ++ wz)) s9 hn.wl
        have wtx : TnAll K H9 (wx ++ wz) ((M1.wt ++ (effRun p M1.ws qq).written).map wrD) := by
          rw [List.map_append]
          exact TnAll.append y2 hWX
        have hA10 := hA9.setWait wtx (hP.same s10)
        have hk10 : upd H9 A.wl (.lst (wx ++ wz)) kd = some (.dK (kv (known0 p M.ws))) := by rw [upd_ne (ne_of hk9 y1 (by intro z; cases z))]; exact hk9
        refine ⟨_, _, _, _, _, runOne p i qq M1, rfl, s10, hA10, hk10, eM, ew, hg2, rnl, ?_, ?_⟩
        · show (M1.wt ++ (effRun p M1.ws qq).written).length + 16 * (most - (M1.rn + 1)) ≤ 300
          rw [List.length_append]
          omega
        · show (M1.lg ++ (effRun p M1.ws qq).said.map fun z => (qq.1, z)).length + 16 * (most - (M1.rn + 1)) ≤ 300
          rw [List.length_append, List.length_map]
          omega
    · rw [if_neg (by rw [hb]; decide)] at eM
      exact ⟨_, _, _, _, _, M1, rfl, s2.trans s3, hA2.same s3, s3 _ _ hk2, eM, ew, hg1, er1, ep1, el1⟩
  · rintro σ H' ⟨v2, v3, v4, v5, v6, M1, rfl, h0', hA1, _, eM, _⟩
    rw [hel, List.drop_length] at eM
    exact q M1 eM H' h0' hA1
end
end K68
namespace K68
open PySem PySem.Spec PyProof.Rows L2 Td
def spWrT (K : PySem.W.Frag) (CM CP CT : Addr) : Sp := fun vs H Q E => ∃ (A : PlA) (wa : Addr) (wr : Td.Env) (p : PP) (m most : Nat) (M : PM) (H0 : Hp), vs = [.ref A.x, .ref wa] ∧ PlAt K H CM CP A p most M ∧ Same H0 H ∧ A.New H0 ∧ ProgAt K H0 CP A.pa p ∧ p.Ok m ∧ m ≤ 16 ∧ M.Good p ∧ M.rn ≤ most ∧ M.pot most ≤ 300 ∧ M.lg.length + 16 * (most - M.rn) ≤ 300 ∧
  Tn K H (.ref wa) (envD wr) ∧ wr.length ≤ 16 ∧ (∀ c ∈ wr, c.1 ∈ p.sources ∧ c.2 ∈ p.words) ∧
  (∀ M', writeF p most wr M = some M' → ∀ H', Same H0 H' → PlAt K H' CM CP A p most M' → Q .non H') ∧ (writeF p most wr M = none → Rz CT "most" (.int (most : Nat)) H0 E)
def spWork (K : PySem.W.Frag) (CM CP CT : Addr) : Sp := fun vs H Q E => ∃ (A : PlA) (p : PP) (m most n : Nat) (M : PM) (H0 : Hp), vs = [.ref A.x] ∧ PlAt K H CM CP A p most M ∧ Same H0 H ∧ A.New H0 ∧ ProgAt K H0 CP A.pa p ∧ p.Ok m ∧ m ≤ 16 ∧ M.Good p ∧ M.rn ≤ most ∧ M.pot most ≤ 300 ∧ M.lg.length + 16 * (most - M.rn) ≤ 300 ∧ M.pot most ≤ n ∧
  (∀ M', restF p most n M = some M' → ∀ H', Same H0 H' → PlAt K H' CM CP A p most M' → Q .non H') ∧ (restF p most n M = none → Rz CT "most" (.int (most : Nat)) H0 E)
theorem zip_map_snd {ss ws : List Str} (g : Str × Str → Str) : ss.zip ((ss.zip ws).map g) = (ss.zip ws).map fun e => (e.1, g e) := by
  induction ss generalizing ws with
  | nil => rfl
  | cons a r ih =>
    cases ws with
    | nil => rfl
    | cons b t => rw [List.zip_cons_cons, List.map_cons, List.zip_cons_cons, ih, List.map_cons]
theorem put_zip {p : PP} {ws : List Str} {c : Str × Str} (hl : ws.length = p.sources.length) (hc : c.1 ∈ p.sources) : putE (p.sources.zip ws) c.1 c.2 = p.sources.zip (setW p ws c) := by
  have hh := zip_has hc hl.symm
  rw [← getE_any] at hh
  unfold putE setW
  rw [if_pos hh, zip_map_snd]
  refine List.map_congr_left fun e _ => ?_
  by_cases x : e.1 = c.1
  · rw [if_pos x, if_pos x]
  · rw [if_neg x, if_neg x]
theorem eff_few {p : PP} {m : Nat} {q : Str × List Td.Row} (ok : p.Ok m) (hm : m ≤ 16) (hq : q ∈ p.effects) (ws : List Str) : (effRun p ws q).Few 16 := by
  obtain ⟨i, hi⟩ := List.getElem?_of_mem hq
  obtain ⟨h1, h2⟩ := okEff_get ok.eff hi
  exact (few_Rs (knF (known0 p ws)) (d0 p) q.2 (rs0 (d0 p)) 0 (few0 _)).mono (by omega)
/-- the log's room -/
def PM.lro (most : Nat) (M : PM) : Nat := M.lg.length + 16 * (most - M.rn)
theorem lookFrom_lro {p : PP} {m most : Nat} (ok : p.Ok m) (hm : m ≤ 16) : ∀ (qs : List (Str × List Td.Row)) (i : Nat) (M M' : PM), (∀ q ∈ qs, q ∈ p.effects) → M.rn ≤ most → lookFrom p most i qs M = some M' → M'.lro most ≤ M.lro most
  | [], i, M, M', _, h, e => by
    unfold lookFrom at e
    cases e
    exact Nat.le_refl _
  | q :: r, i, M, M', hq, h, e => by
    unfold lookFrom at e
    have hr := fun x hx => hq x (List.mem_cons_of_mem _ hx)
    split at e
    · split at e
      · cases e
      · rename_i hne
        refine Nat.le_trans (lookFrom_lro ok hm r (i + 1) _ M' hr (show M.rn + 1 ≤ most by omega) e) ?_
        have h16 := (eff_few ok hm (hq q (List.mem_cons_self ..)) M.ws).sa
        show (M.lg ++ (effRun p M.ws q).said.map fun z => (q.1, z)).length + 16 * (most - (M.rn + 1)) ≤ M.lg.length + 16 * (most - M.rn)
        rw [List.length_append, List.length_map]
        omega
    · exact lookFrom_lro ok hm r (i + 1) M M' hr h e
theorem writeF_lro {p : PP} {m most : Nat} {wr : Td.Env} {M M' : PM} (ok : p.Ok m) (hm : m ≤ 16) (h : M.rn ≤ most) (e : writeF p most wr M = some M') : M'.lro most ≤ M.lro most := by
  unfold writeF at e
  split at e
  · cases e; exact Nat.le_refl _
  · exact lookFrom_lro ok hm p.effects 0 { M with ws := (counting p M.ws wr).foldl (setW p) M.ws } M' (fun q hq => hq) h e
theorem zip_filter_snd {α β : Type} {xs : List α} {L : List β} (g : β → Bool) (hl : xs.length = L.length) : ((xs.zip L).filter fun c => g c.2).map Prod.snd = L.filter g := by
  have h := List.filter_map (f := Prod.snd) (p := g) (l := xs.zip L)
  rw [List.map_snd_zip (Nat.le_of_eq hl.symm)] at h
  exact h.symm
theorem counts_if {kn : Td.Env} {c : Str × Str} (h : (getE kn c.1).isSome = true) : decide (getE kn c.1 ≠ some c.2) = !decide (V.str (knF kn c.1) = V.str c.2) := by
  obtain ⟨u, hu⟩ := Option.isSome_iff_exists.mp h
  rw [ne_str]
  unfold knF
  rw [hu]
  show decide (some u ≠ some c.2) = decide (u ≠ c.2)
  exact decide_eq_decide.mpr ⟨fun h e => h (by rw [e]), fun h e => h (Option.some.inj e)⟩
theorem wr_str {K : PySem.W.Frag} {H : Hp} {v : V} {c : Str × Str} (h : Tn K H v (wrD c)) : ∃ b, v = .ref b ∧ SqT K H b [.str c.1, .str c.2] := by
  obtain ⟨b, es, e, hB, hE⟩ := Tn.tup_inv h
  obtain rfl : es = [V.str c.1, V.str c.2] := TnAll.strs_inv (zs := [c.1, c.2]) hE
  exact ⟨b, e, hB⟩
section
variable {P : Program} {w : World} {K : PySem.W.Frag} {mg : Str → Option Value} {base : Heap}
theorem ok_write_together (T : Tops w K mg) (G_PlainMachine_look_at_effects : FnOk P w K mg base (L2.CX P w) 10 T.a_PlainMachine_look_at_effects T.d_PlainMachine_look_at_effects ["self"] (spLook K T.c_PlainMachine T.c_Program T.c_TooManyRuns)) :
    FnOk P w K mg base (L2.CX P w) 11 T.a_PlainMachine_write_together T.d_PlainMachine_write_together ["self", "writes"] (spWrT K T.c_PlainMachine T.c_Program T.c_TooManyRuns) := by
  refine T.F_PlainMachine_write_together.okX sc_PlainMachine_write_together (fun vs H Q E h => ?_) (fun cdv AR outer s H vs Q E hr h => ?_)
  · obtain ⟨A, wa, wr, p, m, most, M, H0, rfl, _⟩ := h
    rfl
  obtain ⟨A, wa, wr, p, m, most, M, H0, rfl, hA, hs, hn, hP, ok, hm, hg, hrn, hpot, hlg, hW, hwl, hwi, q, r⟩ := h
  refine ⟨_, (pss_cons (ps_setLc (i := 2) (own := [(("source" : Str), 3), (("word" : Str), 4)]) (wi := (iTup K (tVar 1))) (g := gTup K 2 (gCons (gName 3) (gCons (gName 4) gNil))) (tt := (tTest (tOp rNe (tDGet (tFld K (tVar 0) "held") (tVar 3)) (tVar 4)))) (te := (tTup (tCons (tVar 3) (tCons (tVar 4) tNil)))) rfl sc_PlainMachine_write_together.nd rfl rfl (sw_true rfl rfl rfl (by decide +kernel)) (pi_tup (pv 1)) (blkOk_by (own := [(("source" : Str), 3), (("word" : Str), 4)]) (N := N_PlainMachine_write_together) (sc := defScope s_PlainMachine_write_together) (by decide +kernel)) (fun _ _ _ _ _ => (pg_tup rfl (pgs_cons (pg_name (i := 3) sc_PlainMachine_write_together.nd rfl (Or.inl rfl)) (pgs_cons (pg_name (i := 4) sc_PlainMachine_write_together.nd rfl (Or.inl rfl)) pgs_nil)))) (fun _ _ _ _ _ => (pts_one (pt_cmpR op_ne (pe_dget (hu_of hr) (pe_fld (pv 0) rfl) (pv 3) (fun _ _ => rfl)) (pv 4) (nomark _)))) (fun _ _ _ _ _ => (pe_tup (pa_cons (pv 3) (pa_cons (pv 4) pa_nil)))))
    (pss_cons (ps_for (passes_of rfl) rfl (pi_list (pv 2)) (pg_tup rfl (pgs_cons (pg_name (i := 3) sc_PlainMachine_write_together.nd rfl (Or.inl rfl)) (pgs_cons (pg_name (i := 4) sc_PlainMachine_write_together.nd rfl (Or.inl rfl)) pgs_nil))) (pss_one (ps_dput (hu_of hr) (pe_fld (pv 0) rfl) (pv 3) (pv 4) rfl)))
    (pss_one (ps_if (pt_truth (pv 2) (by intro _; rfl)) (pss_one (ps_expr (pe_meth0 (pv 0) T.l_PlainMachine T.t_PlainMachine_look_at_effects G_PlainMachine_look_at_effects (hr.mono (by omega)) T.b_PlainMachine_look_at_effects .nil (passes_call (takes_of rfl rfl rfl rfl) (fun _ _ _ _ h => h))))) pss_nil)))), ?_⟩
  obtain ⟨wa', xs, ew, hWS, hWX⟩ := Tn.tup_inv hW
  cases ew
  have xl := n_len hWX
  have hob := hA.ob
  obtain ⟨fp, fm, fh, fn, fw, fl, fr⟩ := fl_pl A most M.rn
  refine ⟨_, rfl, wa, rfl, ⟨_, hWS⟩, fun D hD => buS_tup (xs.zip wr) Prod.fst (fun c : V × (Str × Str) => decide (getE (p.sources.zip M.ws) c.2.1 ≠ some c.2.2)) (fun H v c => Tn K H v (wrD c.2)) (fun k h => Tn.keep k h) hWS (List.map_fst_zip (Nat.le_of_eq xl)).symm (by rw [List.length_zip]; omega) hD ?_ ?_⟩
  · rintro j c H' hc s Yes No yes no
    obtain ⟨c1, c2⟩ := List.getElem?_zip_eq_some.mp hc
    obtain ⟨d, hd, hdx⟩ := TnAll.get hWX c1
    rw [List.getElem?_map, c2] at hd
    cases hd
    obtain ⟨b2, e2, hB2⟩ := wr_str hdx
    rw [e2]
    have has := zip_has (hwi _ (List.mem_of_getElem? c2)).1 hg.wl.symm
    have ef := counts_if has
    refine ⟨b2, _, rfl, SqT.same s hB2, rfl, _, _, rfl, _, _, rfl, rfl, rfl, ?_⟩
    refine ⟨_, rfl, A.x, _, A.dx, _, _, rfl, s _ _ hob, T.l_PlainMachine, T.n_PlainMachine_held, fh, _, rfl, A.hd, _, rfl, get_known (s _ _ hA.hd) has, _, rfl, rfl, _, rfl, if_known (fun h => ?_) (fun h => no (by rw [ef]; exact h) _ (Same.refl _))⟩
    refine ⟨_, rfl, _, rfl, by show 2 ≤ sizeLine; decide, fun t1 ht1 => yes (by rw [ef]; exact h) _ _ (Same.new ht1 _) ?_⟩
    exact Tn.new (.cons (.str _) (.cons (.str _) .nil)) ht1
  rintro H1 zs s1 hz hR
  have zx : TnAll K H1 zs ((counting p M.ws wr).map wrD) := by
    have h := hR.tn (g := fun c : V × (Str × Str) => wrD c.2)
    rw [show (fun c : V × (Str × Str) => wrD c.2) = wrD ∘ Prod.snd from rfl, ← List.map_map, zip_filter_snd (fun c => decide (getE (p.sources.zip M.ws) c.1 ≠ some c.2)) xl] at h
    exact h
  have zl := n_len zx
  have hci : ∀ c ∈ counting p M.ws wr, c.1 ∈ p.sources ∧ c.2 ∈ p.words := fun c hc => hwi c (List.mem_filter.mp hc).1
  have eW : writeF p most wr M = if counting p M.ws wr = [] then some M else lookFrom p most 0 p.effects { M with ws := (counting p M.ws wr).foldl (setW p) M.ws } := rfl
  generalize counting p M.ws wr = cs at zx zl hci eW
  refine ⟨_, rfl, D, rfl, ⟨_, SqL.of hz⟩, for_list (K := K) (a := D) (xs := zs) (fun i σ H' => ∃ (v3 v4 : Option V), σ = [some (.ref A.x), some (.ref wa), some (.ref D), v3, v4] ∧ Same H0 H' ∧ PlAt K H' T.c_PlainMachine T.c_Program A p most { M with ws := (cs.take i).foldl (setW p) M.ws } ∧ H' D = some (.lst zs) ∧ TnAll K H' zs (cs.map wrD))
    ⟨none, none, rfl, hs.trans s1, hA.same s1, hz, zx⟩ (fun i σ H' _ ⟨_, _, _, _, _, h, _⟩ => SqL.of h) ?_ ?_⟩
  · rintro i x σ H2 hi ⟨v3, v4, rfl, s2, hA2, hD2, hX2⟩
    obtain ⟨d, hd, hdx⟩ := TnAll.get hX2 hi
    rw [List.getElem?_map] at hd
    obtain ⟨c, hc, rfl⟩ := Option.map_eq_some_iff.mp hd
    obtain ⟨b2, rfl, hB2⟩ := wr_str hdx
    have wl2 : ((cs.take i).foldl (setW p) M.ws).length = p.sources.length := setWs_len _ hg.wl
    refine ⟨b2, _, rfl, hB2, rfl, _, _, rfl, _, _, rfl, rfl, ?_⟩
    have hd2 : H2 A.hd = some (.dK (kv (p.sources.zip ((cs.take i).foldl (setW p) M.ws)))) := hA2.hd
    refine ⟨_, rfl, _, rfl, A.x, _, A.dx, _, _, rfl, hA2.ob, T.l_PlainMachine, T.n_PlainMachine_held, fh, _, rfl, A.hd, _, rfl, put_kv hd2 (small1000 (by rw [List.length_zip]; have := ok.s4; omega)), ?_⟩
    rw [put_zip wl2 (hci c (List.mem_of_getElem? hc)).1]
    have s3 := own_same (o := .dK (kv (p.sources.zip (setW p ((cs.take i).foldl (setW p) M.ws) c)))) s2 hn.hd
    have hA3 := hA2.setHeld (hP.same s3)
    have tk : TK H2 (upd H2 A.hd (.dK (kv (p.sources.zip (setW p ((cs.take i).foldl (setW p) M.ws) c))))) := TK.upd (by rw [hd2]; trivial)
    refine ⟨_, _, rfl, s3, ?_, by rw [upd_ne (ne_of hD2 hd2 (by intro z; cases z))]; exact hD2, TnAll.keep tk hX2⟩
    rw [take_more hc, List.foldl_append]
    exact hA3
  rintro σ H2 ⟨v3, v4, rfl, s2, hA2, hD2, hX2⟩
  rw [zl, List.take_length] at hA2
  refine ⟨_, rfl, !zs.isEmpty, .inl ⟨zs, SqL.of hD2, rfl⟩, ?_⟩
  by_cases hc0 : cs = []
  · subst hc0
    obtain rfl : zs = [] := List.length_eq_zero_iff.mp zl
    rw [if_pos rfl] at eW
    exact if_false_of rfl (q M eW H2 s2 hA2)
  · rw [if_neg hc0] at eW
    have zn : (!zs.isEmpty) = true := by
      cases zs with
      | nil => exact absurd (List.length_eq_zero_iff.mp zl.symm) hc0
      | cons _ _ => rfl
    refine if_true_of zn ?_
    refine ⟨_, rfl, A.x, A.dx, _, rfl, hA2.ob, by kernel_rfl, A, p, m, most, { M with ws := cs.foldl (setW p) M.ws }, H0, rfl, hA2, s2, hn, hP, ok, hm, ⟨setWs_len _ hg.wl, setWs_in _ hg.ww fun c hc => (hci c hc).2, hg.nl, hg.nn, hg.wt, hg.lg⟩, hrn, hpot, hlg, fun M' e H' s' h' => q M' (eW.trans e) H' s' h', fun e => r (eW.trans e)⟩
theorem ok_work_off (T : Tops w K mg) (G_PlainMachine_write_together : FnOk P w K mg base (L2.CX P w) 11 T.a_PlainMachine_write_together T.d_PlainMachine_write_together ["self", "writes"] (spWrT K T.c_PlainMachine T.c_Program T.c_TooManyRuns)) :
    FnOk P w K mg base (L2.CX P w) 12 T.a_PlainMachine_work_off_waiting T.d_PlainMachine_work_off_waiting ["self"] (spWork K T.c_PlainMachine T.c_Program T.c_TooManyRuns) := by
  refine T.F_PlainMachine_work_off_waiting.okX sc_PlainMachine_work_off_waiting (fun vs H Q E h => ?_) (fun cdv AR outer s H vs Q E hr h => ?_)
  · obtain ⟨A, p, m, most, n, M, H0, rfl, _⟩ := h
    rfl
  obtain ⟨A, p, m, most, n, M, H0, rfl, hA, hs, hn, hP, ok, hm, hg, hrn, hpot, hlg, hpn, q, r⟩ := h
  refine ⟨_, (pss_one (ps_while (passes_of rfl) (pt_truth (pe_fld (pv 0) rfl) (by intro _; rfl)) (pss_one (ps_expr (pe_meth (pv 0) T.l_PlainMachine T.t_PlainMachine_write_together G_PlainMachine_write_together (hr.mono (by omega)) T.b_PlainMachine_write_together .nil (passes_call (takes_of rfl rfl rfl rfl) (fun _ _ _ _ h => h)) (pa_cons (pe_tup (pa_cons (pe_bm PySem.F.plainAttrs_list PySem.F.slot_list_pop PySem.F.type_list_pop mt_popAt (pe_fld (pv 0) rfl) (pa_cons pe_int pa_nil)) pa_nil)) pa_nil)))))), ?_⟩
  refine ⟨fun k σ H' => ∃ M1 : PM, σ = [some (.ref A.x)] ∧ Same H0 H' ∧ PlAt K H' T.c_PlainMachine T.c_Program A p most M1 ∧ M1.Good p ∧ M1.rn ≤ most ∧ M1.pot most ≤ 300 ∧ M1.lro most ≤ 300 ∧ M1.pot most ≤ k ∧ restF p most n M = restF p most k M1, ⟨n, M, rfl, hs, hA, hg, hrn, hpot, hlg, hpn, rfl⟩, ?_⟩
  rintro k σ H1 ⟨M1, rfl, s1, hA1, hg1, hr1, hp1, hl1, hk, eM⟩
  obtain ⟨wx, w1, w2⟩ := hA1.wt
  have wl := n_len w2
  obtain ⟨fp, fm, fh, fn, fw, fl, fr⟩ := fl_pl A most M1.rn
  refine ⟨_, rfl, A.x, _, A.dx, _, _, rfl, hA1.ob, T.l_PlainMachine, T.n_PlainMachine_waiting, fw, !wx.isEmpty, .inl ⟨wx, SqL.of w1, rfl⟩, ?_⟩
  cases ew : M1.wt with
  | nil =>
    rw [ew] at wl
    obtain rfl : wx = [] := List.length_eq_zero_iff.mp wl
    have e1 : restF p most k M1 = some M1 := by
      cases k with
      | zero => rfl
      | succ j => unfold restF; rw [ew]
    exact if_false_of rfl (q M1 (eM.trans e1) H1 s1 hA1)
  | cons c rest =>
    rw [ew] at wl w2
    cases wx with
    | nil => cases wl
    | cons v wr =>
    have pk : M1.pot most = (rest.length + 1) + 16 * (most - M1.rn) := by unfold PM.pot; rw [ew]; rfl
    obtain ⟨j, rfl⟩ : ∃ j, k = j + 1 := ⟨k - 1, by omega⟩
    have e1 : restF p most (j + 1) M1 = (writeF p most [c] { M1 with wt := rest }).bind (restF p most j) := by
      show (match M1.wt with | [] => some M1 | c :: r => (writeF p most [c] { M1 with wt := r }).bind (restF p most j)) = _
      rw [ew]
    have eM' := eM.trans e1
    refine if_true_of rfl ⟨fun σ' H' => ∃ M2 : PM, σ' = [some (.ref A.x)] ∧ Same H0 H' ∧ PlAt K H' T.c_PlainMachine T.c_Program A p most M2 ∧ M2.Good p ∧ M2.rn ≤ most ∧ M2.pot most ≤ 300 ∧ M2.lro most ≤ 300 ∧ M2.pot most ≤ j ∧ restF p most n M = restF p most j M2, fun σ' H' h => ⟨j, Nat.lt_succ_self _, h⟩, ?_⟩
    obtain ⟨hv, hw⟩ : Tn K H1 v (wrD c) ∧ TnAll K H1 wr (rest.map wrD) := by cases w2 with | cons a b => exact ⟨a, b⟩
    refine ⟨_, rfl, A.x, A.dx, _, rfl, hA1.ob, by kernel_rfl, _, rfl, A.x, _, A.dx, _, _, rfl, hA1.ob, T.l_PlainMachine, T.n_PlainMachine_waiting, fw, .inl ⟨rfl, _, SqL.of w1⟩, A.wl, _, _, 0, _, rfl, rfl, w1, by decide, by decide, (ixN_seq (ixN_nat (i := 0) (n := (v :: wr).length) (Nat.succ_pos _))).1, rfl, ?_⟩
    have s2 := own_same (o := .lst wr) s1 hn.wl
    have hA2 := hA1.setWait hw (hP.same s2)
    have hv2 : Tn K (upd H1 A.wl (.lst wr)) v (wrD c) := Tn.keep (TK.upd (by rw [w1]; trivial)) hv
    show _ ∧ _
    refine ⟨by show 1 ≤ sizeLine; decide, fun t ht => ?_⟩
    have z3 := Same.new ht (.tup [v])
    have g3 : ({ M1 with wt := rest } : PM).Good p := ⟨hg1.wl, hg1.ww, hg1.nl, hg1.nn, fun x hx => hg1.wt x (by rw [ew]; exact List.mem_cons_of_mem _ hx), hg1.lg⟩
    have hc := hg1.wt c (by rw [ew]; exact List.mem_cons_self)
    have hci : ∀ x ∈ [c], x.1 ∈ p.sources ∧ x.2 ∈ p.words := fun x hx => by rw [List.mem_singleton.mp hx]; exact hc
    have p3 : ({ M1 with wt := rest } : PM).pot most + 1 = M1.pot most := by
      rw [pk]
      show rest.length + 16 * (most - M1.rn) + 1 = _
      omega
    refine ⟨A, t, [c], p, m, most, { M1 with wt := rest }, H0, rfl, hA2.same z3, s2.trans z3, hn, hP, ok, hm, g3, hr1, by omega, hl1, Tn.new (.cons hv2 .nil) ht, by show 1 ≤ 16; decide, hci, fun M' e H' s' h' => ?_, fun e => r (by rw [eM', e]; rfl)⟩
    obtain ⟨a1, a2, a3, a4⟩ := writeF_pot (fun q hq ws => (eff_few ok hm hq ws).wr) (M := { M1 with wt := rest }) hr1 g3.wl e
    have a5 := writeF_lro ok hm (M := { M1 with wt := rest }) hr1 e
    exact ⟨M', rfl, s', h', good_write ok hm g3 hci e, a1, by omega, Nat.le_trans a5 hl1, by omega, by rw [eM', e]; rfl⟩
end
end K68
namespace K68
open PySem PySem.Spec PyProof.Rows L2 Td
section
variable {P : Program} {w : World} {K : PySem.W.Frag} {mg : Str → Option Value} {base : Heap}
def spIsInt : Sp := fun vs H Q _ => ∃ v : Int, vs = [.int v] ∧ Q (.bl true) H
def spBound : Sp := fun vs H Q _ => ∃ v g : Int, vs = [.int v, .int g] ∧ 1 ≤ v ∧ v ≤ g ∧ Q .non H
def spMost : Sp := fun vs H Q _ => ∃ v : Int, vs = [.int v] ∧ 1 ≤ v ∧ v ≤ 2000 ∧ Q .non H
theorem ok_is_integer (T : Tops w K mg) : FnOk P w K mg base CX0 1 T.a_is_integer T.d_is_integer ["value"] spIsInt := by
  refine T.F_is_integer.ok sc_is_integer (fun vs H Q E h => ?_) (fun cdv AR outer s H vs Q E hr h => ?_)
  · obtain ⟨v, rfl, _⟩ := h
    rfl
  obtain ⟨v, rfl, q⟩ := h
  refine ⟨_, (pss_one (ps_ret (pe_and (pe_callB call_isi rfl T.z_isinstance (by decide +kernel) (pa_cons (pv 0) (pa_cons (pe_bltn (v := .ty "int") rfl T.z_int (by decide +kernel) rfl) pa_nil))) (pe_one (pe_not (pe_callB call_isi rfl T.z_isinstance (by decide +kernel) (pa_cons (pv 0) (pa_cons (pe_bltn (v := .ty "bool") rfl T.z_bool (by decide +kernel) rfl) pa_nil)))))))), ?_⟩
  exact ⟨_, rfl, .int v, .ty "int", .type "int", .type "int", true, rfl, .ty _, ty_data (d := .int v) (.int v), kit_ty (by decide +kernel), true, rfl, if_true_of rfl ⟨_, rfl, .int v, .ty "bool", .type "int", .type "bool", false, rfl, .ty _, ty_data (d := .int v) (.int v), kit_ty (by decide +kernel), false, rfl, q⟩⟩
theorem ok_check_bound (T : Tops w K mg) (G_is_integer : FnOk P w K mg base CX0 1 T.a_is_integer T.d_is_integer ["value"] spIsInt)  :
    FnOk P w K mg base CX0 2 T.a_check_bound T.d_check_bound ["value", "greatest"] spBound := by
  refine T.F_check_bound.ok sc_check_bound (fun vs H Q E h => ?_) (fun cdv AR outer s H vs Q E hr h => ?_)
  · obtain ⟨v, g, rfl, _⟩ := h
    rfl
  obtain ⟨v, g, rfl, h1, h2, q⟩ := h
  refine ⟨_, (pss_one (ps_if (PW.pt (pw_or (pt_not (pt_val (pe_call G_is_integer (hr.mono (by omega)) rfl T.m_is_integer T.F_is_integer.kp T.b_is_integer .nil pass0 (pa_cons (pv 0) pa_nil)))) (pw_or1 (pt_not (pt_chain op_le op_le pe_int (pv 0) (pv 1)))))) (pss_one ps_never) pss_nil)), ?_⟩
  exact ⟨_, rfl, v, rfl, true, rfl, if_false_of rfl ⟨_, rfl, _, _, rfl, rfl, _, rfl, if_true_of (decide_eq_true h1) ⟨_, rfl, _, _, rfl, rfl, _, rfl, if_false_of (by rw [decide_eq_true h2]; rfl) q⟩⟩⟩
theorem ok_check_most (T : Tops w K mg) (G_check_bound : FnOk P w K mg base CX0 2 T.a_check_bound T.d_check_bound ["value", "greatest"] spBound) :
    FnOk P w K mg base CX0 3 T.a_check_most T.d_check_most ["value"] spMost := by
  refine T.F_check_most.ok sc_check_most (fun vs H Q E h => ?_) (fun cdv AR outer s H vs Q E hr h => ?_)
  · obtain ⟨v, rfl, _⟩ := h
    rfl
  obtain ⟨v, rfl, h1, h2, q⟩ := h
  refine ⟨_, (pss_one (ps_expr (pe_call G_check_bound (hr.mono (by omega)) rfl T.m_check_bound T.F_check_bound.kp T.b_check_bound .nil pass0 (pa_cons (pv 0) (pa_cons (pe_glob (v := .int 2000) rfl T.c_GREATEST_MOST ⟨_, rfl⟩) pa_nil))))), ?_⟩
  exact ⟨_, rfl, v, 2000, rfl, h1, h2, q⟩
end
/-- the plain machine's start -/
def begF (p : PP) (most : Nat) (ws : List Str) : Option PM := (lookFrom p most 0 p.effects ⟨ws, p.effects.map fun _ => none, [], [], 0⟩).bind (restF p most (16 * most + 1))
def begD (M : PM) : PyData := .tuple [restD M, .tuple (M.lg.map wrD)]
def spBegin (K : PySem.W.Frag) (CP CI CT : Addr) : Sp := fun vs H Q E => ∃ (pa : Addr) (wv : V) (p : PP) (m most : Nat), vs = [.ref pa, wv, .int (most : Nat)] ∧ ProgAt K H CP pa p ∧ p.Ok m ∧ m ≤ 16 ∧ 1 ≤ most ∧ most ≤ 6 ∧
  ((∃ (wa : Addr) (ws : List Str), wv = .ref wa ∧ SqT K H wa (ws.map V.str) ∧ ws.length = p.sources.length ∧ (∀ z ∈ ws, z ∈ p.words) ∧
    (∀ M', begF p most ws = some M' → ∀ v H', Same H H' → Tn K H' v (begD M') → Q v H') ∧ (begF p most ws = none → Rz CT "most" (.int (most : Nat)) H E)) ∨
   (∃ d : PyData, BadW K H p wv d ∧ Rz CI "words" wv H E))
section
variable {P : Program} {w : World} {K : PySem.W.Frag} {mg : Str → Option Value} {base : Heap}
theorem ok_plain_begin (T : Tops w K mg) (G_check_most : FnOk P w K mg base CX0 3 T.a_check_most T.d_check_most ["value"] spMost)
    (G_check_start : FnOk P w K mg base (L2.CX P w) 3 T.a_check_start T.d_check_start ["program", "words"] (spCheck K T.c_Program T.c_InvalidStart))
    (G_PlainMachine_init : FnOk P w K mg base CX0 1 T.a_PlainMachine_init T.d_PlainMachine_init ["self", "program", "words", "notes", "most"] (spPlInit K T.c_PlainMachine T.c_Program))
    (G_PlainMachine_look_at_effects : FnOk P w K mg base (L2.CX P w) 10 T.a_PlainMachine_look_at_effects T.d_PlainMachine_look_at_effects ["self"] (spLook K T.c_PlainMachine T.c_Program T.c_TooManyRuns))
    (G_PlainMachine_work_off_waiting : FnOk P w K mg base (L2.CX P w) 12 T.a_PlainMachine_work_off_waiting T.d_PlainMachine_work_off_waiting ["self"] (spWork K T.c_PlainMachine T.c_Program T.c_TooManyRuns))
    (G_PlainMachine_at_rest : FnOk P w K mg base CX0 2 T.a_PlainMachine_at_rest T.d_PlainMachine_at_rest ["self"] (spAtRest K T.c_PlainMachine T.c_Program)) :
    FnOk P w K mg base (L2.CX P w) 13 T.a_plain_begin T.d_plain_begin ["program", "words", "most"] (spBegin K T.c_Program T.c_InvalidStart T.c_TooManyRuns) := by
  refine T.F_plain_begin.ok sc_plain_begin (fun vs H Q E h => ?_) (fun cdv AR outer s H vs Q E hr h => ?_)
  · obtain ⟨pa, wv, p, m, most, rfl, _⟩ := h
    rfl
  refine ⟨_, (pss_cons (ps_expr (pe_call G_check_most (hr.mono (by omega)) rfl T.m_check_most T.F_check_most.kp T.b_check_most .nil pass0 (pa_cons (pv 2) pa_nil)))
    (pss_cons (ps_expr (pe_call G_check_start (hr.mono (by omega)) rfl T.m_check_start T.F_check_start.kp T.b_check_start .nil (passes_call (takes_of rfl rfl rfl rfl) (fun _ _ _ _ h => h)) (pa_cons (pv 0) (pa_cons (pv 1) pa_nil))))
    (pss_cons (ps_set (i := 3) sc_plain_begin.nd rfl (Or.inl rfl) (pe_make T.k_PlainMachine G_PlainMachine_init (hr.mono (by omega)) rfl T.m_PlainMachine T.b_PlainMachine_init .nil pass0 (pa_cons (pv 0) (pa_cons (pv 1) (pa_cons (pe_lc (own := [(("_" : Str), 4)]) (wi := (iTup K (tFld K (tVar 0) "effects"))) (g := gName 4) (tt := tYes) (te := (tC .non)) rfl sc_plain_begin.nd (pi_tup (pe_fld (pv 0) rfl)) (blkOk_by (own := [(("_" : Str), 4)]) (N := N_plain_begin) (sc := defScope s_plain_begin) (by decide +kernel)) (fun _ _ _ _ _ => (pg_name (i := 4) sc_plain_begin.nd rfl (Or.inl rfl))) (fun _ _ _ _ _ => pts_nil) (fun _ _ _ _ _ => pe_non)) (pa_cons (pv 2) pa_nil))))))
    (pss_cons (ps_expr (pe_meth0 (pv 3) T.l_PlainMachine T.t_PlainMachine_look_at_effects G_PlainMachine_look_at_effects (hr.mono (by omega)) T.b_PlainMachine_look_at_effects .nil (passes_call (takes_of rfl rfl rfl rfl) (fun _ _ _ _ h => h))))
    (pss_cons (ps_expr (pe_meth0 (pv 3) T.l_PlainMachine T.t_PlainMachine_work_off_waiting G_PlainMachine_work_off_waiting (hr.mono (by omega)) T.b_PlainMachine_work_off_waiting .nil (passes_call (takes_of rfl rfl rfl rfl) (fun _ _ _ _ h => h))))
    (pss_one (ps_ret (pe_tup (pa_cons (pe_meth0 (pv 3) T.l_PlainMachine T.t_PlainMachine_at_rest G_PlainMachine_at_rest (hr.mono (by omega)) T.b_PlainMachine_at_rest .nil pass0) (pa_cons (pe_callTy (T := "tuple") call_tuple_of rfl T.z_tuple (by decide +kernel) (pa_cons (pe_fld (pv 3) rfl) pa_nil)) pa_nil)))))))))), ?_⟩
  obtain ⟨pa, wv, p, m, most, rfl, hP, ok, hm, hm1, hm6, h⟩ := h
  refine ⟨_, rfl, _, rfl, by omega, by omega, ?_⟩
  rcases h with ⟨wa, ws, rfl, hW, hl, hw, q, r⟩ | ⟨d, hB, rz⟩
  rotate_left
  · exact ⟨_, rfl, _, rfl, .inr ⟨pa, wv, p, m, d, rfl, hP, ok, hB, rz⟩⟩
  refine ⟨_, rfl, _, rfl, .inl ⟨pa, wa, p, m, ws, rfl, hP, ok, hW, hl, hw, fun H1 s1 => ?_⟩⟩
  obtain ⟨pdx, aw, as, vd, ve, ⟨dn, en, e, hdn, hen⟩, h1, h2, h3, h4⟩ := hP.ex
  obtain ⟨ae, ys, rfl, hE, hel, hex⟩ := pairs_at h4
  have e4 := ok.e4
  refine ⟨_, rfl, _, rfl, _, rfl, pa, _, pdx, _, _, rfl, s1 _ _ e, T.l_Program, T.n_Program_effects, progF_effects .., ae, rfl, ⟨_, SqT.same s1 hE⟩, fun D hD => fiS_tup ys id (fun _ => true) (fun _ => V.non) (SqT.same s1 hE) (List.map_id _).symm (by omega) hD ?_ ?_⟩
  · rintro j z H8 hz s8 Yes No yes no
    exact ⟨rfl, tYes_of (yes rfl _ (Same.refl _))⟩
  rintro H2 s2 hb
  rw [Td.filter_all] at hb
  have s12 := s1.trans s2
  have nts : TnAll K H2 (ys.map fun _ => V.non) ((p.effects.map fun _ => (none : Option Td.Env)).map noteD) := by
    have : ∀ (l1 : List V) (l2 : List (Str × List Td.Row)), l1.length = l2.length → TnAll K H2 (l1.map fun _ => V.non) ((l2.map fun _ => (none : Option Td.Env)).map noteD) := by
      intro l1
      induction l1 with
      | nil => intro l2 h; cases l2 with | nil => exact .nil | cons _ _ => cases h
      | cons a r ih => intro l2 h; cases l2 with | nil => cases h | cons b t => exact .cons .non (ih t (by simpa using h))
    exact this ys p.effects hel
  refine ⟨_, rfl, fun x dx hx hdx hne => ?_⟩
  have hs : Same H2 (upd (upd H2 dx (.own x)) x (.ins T.c_PlainMachine dx [])) := (Same.new hdx _).trans (Same.new (by rw [upd_ne (Ne.symm hne)]; exact hx) _)
  have hP2 := hP.same s12
  refine ⟨x, dx, pa, wa, D, _, p, m, ws, p.effects.map fun _ => none, most, H2, rfl, upd_same, hs, hx, hP2, ok, SqT.same s12 hW, hl, .inl (SqL.of hb), nts, fun A H3 hxA hpA s3 n1 n2 n3 n4 n5 hA => ⟨rfl, ?_⟩⟩
  subst hxA
  subst hpA
  have hn : A.New H2 := ⟨n1, n2, n3, n4, n5⟩
  have g0 : (PM.mk ws (p.effects.map fun _ => none) [] [] 0).Good p := ⟨hl, hw, List.length_map _, (fun l hl => by
    obtain ⟨_, _, z⟩ := List.mem_map.mp hl
    cases z), (fun c hc => nomatch hc), (fun c hc => nomatch hc)⟩
  have p0 : (PM.mk ws (p.effects.map fun _ => none) [] [] 0).pot most = 16 * most := by show 0 + 16 * (most - 0) = _; omega
  have l0 : (PM.mk ws (p.effects.map fun _ => none) [] [] 0).lro most = 16 * most := by show 0 + 16 * (most - 0) = _; omega
  refine ⟨_, rfl, A.x, A.dx, _, rfl, hA.ob, by kernel_rfl, A, p, m, most, _, H2, rfl, hA, s3, hn, hP2, ok, hm, g0, Nat.zero_le _, by rw [p0]; omega, by show 0 + 16 * (most - 0) ≤ 300; omega, fun M1 e1 H4 s4 h4' => ?_, fun e1 => (r (by unfold begF; rw [e1]; rfl)).later s12⟩
  obtain ⟨a1, a2, a3, a4⟩ := lookFrom_pot _ _ _ _ (fun q hq ws => (eff_few ok hm hq ws).wr) (Nat.zero_le _) e1
  have a5 := lookFrom_lro ok hm _ _ _ _ (fun q hq => hq) (Nat.zero_le _) e1
  have g1 := good_look ok hm _ _ _ _ (fun q hq => hq) g0 e1
  have eB : begF p most ws = restF p most (16 * most + 1) M1 := by unfold begF; rw [e1]; rfl
  refine ⟨_, rfl, A.x, A.dx, _, rfl, h4'.ob, by kernel_rfl, A, p, m, most, 16 * most + 1, M1, H2, rfl, h4', s4, hn, hP2, ok, hm, g1, a1, by omega, by unfold PM.lro at a5 l0; omega, by omega, fun M2 e2 H5 s5 h5 => ?_, fun e2 => (r (eB.trans e2)).later s12⟩
  have g2 := good_rest ok hm _ _ _ g1 e2
  have s15 := s12.trans s5
  refine ⟨_, rfl, A.x, A.dx, _, rfl, h5.ob, by kernel_rfl, A, p, m, most, M2, rfl, h5, ok, hm, g2.wl, fun t H6 s6 ht => ?_⟩
  obtain ⟨lx, l1, l2⟩ := h5.lg
  have f := fl_pl A most M2.rn
  refine ⟨_, rfl, A.x, _, A.dx, _, _, rfl, s6 _ _ h5.ob, T.l_PlainMachine, T.n_PlainMachine_log, f.2.2.2.2.2.1, A.ll, _, rfl, .inl ⟨SqL.of (s6 _ _ l1), fun l hl => ⟨by show 2 ≤ sizeLine; decide, fun t2 ht2 => ?_⟩⟩⟩
  have z1 := Same.new hl (.tup lx)
  have z2 := Same.new ht2 (.tup [V.ref t, .ref l])
  refine q M2 (eB.trans e2) (.ref t2) _ (s15.trans (s6.trans (z1.trans z2))) (.tup (SqT.of upd_same) (.cons (Tn.same (z1.trans z2) ht) (.cons (.tup (SqT.same z2 (SqT.of upd_same)) (TnAll.keep (TK.of_same (s6.trans (z1.trans z2))) l2)) .nil)))
end
end K68
namespace K68
open PySem PySem.Spec PyProof.Rows L2 Td
/-- a plain standing's machine -/
def atR (ws : List Str) (nt : List (Option Td.Env)) : PM := ⟨ws, nt, [], [], 0⟩
def movF (p : PP) (most : Nat) (M : PM) (wr : Td.Env) : Option PM := (writeF p most wr M).bind (restF p most (16 * most + 1))
def stepD (M : PM) : PyData := .tuple [restD M, .none, .tuple (M.lg.map wrD)]
def De.writes : De → Td.Env
  | .rd _ => []
  | .wr s w => [(s, w)]
  | .bt ps => ps
def stepF (p : PP) (most : Nat) (M : PM) : De → Option PyData
  | .rd c => some (.tuple [restD M, .str (knF (known0 p M.ws) c), .tuple []])
  | .wr s w => (movF p most M [(s, w)]).map stepD
  | .bt ps => (movF p most M ps).map stepD
def spStep (K : PySem.W.Frag) (CP CD CT : Addr) : Sp := fun vs H Q E => ∃ (pa : Addr) (sv dv : V) (p : PP) (m most : Nat), vs = [.ref pa, sv, dv, .int (most : Nat)] ∧ ProgAt K H CP pa p ∧ p.Ok m ∧ m ≤ 16 ∧ 1 ≤ most ∧ most ≤ 6 ∧
  ((∃ (d : PyData) (k : Nat), Dp K H dv d ∧ smB k d = true ∧ k ≤ 50 ∧ isDeedD p d = false ∧ Rz CD "deed" dv H E) ∨
   (∃ (ws : List Str) (nt : List (Option Td.Env)) (de : De), Tn K H sv (restD (atR ws nt)) ∧ (atR ws nt).Good p ∧ de.Of p ∧ Tn K H dv de.data ∧
    (∀ d, stepF p most (atR ws nt) de = some d → ∀ v H', Same H H' → Tn K H' v d → Q v H') ∧ (stepF p most (atR ws nt) de = none → Rz CT "most" (.int (most : Nat)) H E)))
section
variable {P : Program} {w : World} {K : PySem.W.Frag} {mg : Str → Option Value} {base : Heap}
theorem ok_plain_step (T : Tops w K mg) (G_check_most : FnOk P w K mg base CX0 3 T.a_check_most T.d_check_most ["value"] spMost)
    (G_is_deed : FnOk P w K mg base CX0 3 T.a_is_deed T.d_is_deed ["program", "value"] (spDeedX K T.c_Program))
    (G_InvalidDeed_init : FnOk P w K mg base CX0 1 T.a_InvalidDeed_init T.d_InvalidDeed_init ["self", "deed"] (spExc K T.c_InvalidDeed "deed"))
    (G_PlainMachine_init : FnOk P w K mg base CX0 1 T.a_PlainMachine_init T.d_PlainMachine_init ["self", "program", "words", "notes", "most"] (spPlInit K T.c_PlainMachine T.c_Program))
    (G_PlainMachine_true_now : FnOk P w K mg base CX0 9 T.a_PlainMachine_true_now T.d_PlainMachine_true_now ["self"] (spTrueNow K T.c_PlainMachine T.c_Program))
    (G_PlainMachine_write_together : FnOk P w K mg base (L2.CX P w) 11 T.a_PlainMachine_write_together T.d_PlainMachine_write_together ["self", "writes"] (spWrT K T.c_PlainMachine T.c_Program T.c_TooManyRuns))
    (G_PlainMachine_work_off_waiting : FnOk P w K mg base (L2.CX P w) 12 T.a_PlainMachine_work_off_waiting T.d_PlainMachine_work_off_waiting ["self"] (spWork K T.c_PlainMachine T.c_Program T.c_TooManyRuns))
    (G_PlainMachine_at_rest : FnOk P w K mg base CX0 2 T.a_PlainMachine_at_rest T.d_PlainMachine_at_rest ["self"] (spAtRest K T.c_PlainMachine T.c_Program)) :
    FnOk P w K mg base (L2.CX P w) 13 T.a_plain_step T.d_plain_step ["program", "standing", "deed", "most"] (spStep K T.c_Program T.c_InvalidDeed T.c_TooManyRuns) := by
  refine T.F_plain_step.ok sc_plain_step (fun vs H Q E h => ?_) (fun cdv AR outer s H vs Q E hr h => ?_)
  · obtain ⟨pa, sv, dv, p, m, most, rfl, _⟩ := h
    rfl
  refine ⟨_, (pss_cons (ps_expr (pe_call G_check_most (hr.mono (by omega)) rfl T.m_check_most T.F_check_most.kp T.b_check_most .nil pass0 (pa_cons (pv 3) pa_nil)))
    (pss_cons (ps_if (pt_not (pt_val (pe_call G_is_deed (hr.mono (by omega)) rfl T.m_is_deed T.F_is_deed.kp T.b_is_deed .nil pass0 (pa_cons (pv 0) (pa_cons (pv 2) pa_nil))))) (pss_one (ps_raise rfl (takes_of rfl rfl rfl rfl) (pmk_oex T.x_InvalidDeed T.xi_InvalidDeed T.xt_InvalidDeed G_InvalidDeed_init (hr.mono (by omega)) T.b_InvalidDeed_init .nil pass0 rfl T.m_InvalidDeed (pa_cons (pv 2) pa_nil)))) pss_nil)
    (pss_cons (ps_asg (pv 1) (pg_tup rfl (pgs_cons (pg_name (i := 4) sc_plain_step.nd rfl (Or.inl rfl)) (pgs_cons (pg_name (i := 5) sc_plain_step.nd rfl (Or.inl rfl)) pgs_nil))))
    (pss_cons (ps_set (i := 6) sc_plain_step.nd rfl (Or.inl rfl) (pe_make T.k_PlainMachine G_PlainMachine_init (hr.mono (by omega)) rfl T.m_PlainMachine T.b_PlainMachine_init .nil pass0 (pa_cons (pv 0) (pa_cons (pv 4) (pa_cons (pv 5) (pa_cons (pv 3) pa_nil))))))
    (pss_cons (ps_if (pt_cmpR op_eq (pe_ix ix_tup (pv 2) pe_int (fun _ _ => rfl)) pe_str (nomark _)) (pss_one (ps_ret (pe_tup (pa_cons (pv 1) (pa_cons (pe_dget (hu_of hr) (pe_meth0 (pv 6) T.l_PlainMachine T.t_PlainMachine_true_now G_PlainMachine_true_now (hr.mono (by omega)) T.b_PlainMachine_true_now .nil pass0) (pe_ix ix_tup (pv 2) pe_int (fun _ _ => rfl)) (fun _ _ => rfl)) (pa_cons (pe_tup pa_nil) pa_nil)))))) pss_nil)
    (pss_cons (ps_expr (pe_meth (pv 6) T.l_PlainMachine T.t_PlainMachine_write_together G_PlainMachine_write_together (hr.mono (by omega)) T.b_PlainMachine_write_together .nil (passes_call (takes_of rfl rfl rfl rfl) (fun _ _ _ _ h => h)) (pa_cons (pe_ifExp (pt_cmpR op_eq (pe_ix ix_tup (pv 2) pe_int (fun _ _ => rfl)) pe_str (nomark _)) (pe_tup (pa_cons (pe_slice sl_tupA (pv 2) (po_some pe_int) po_none) pa_nil)) (pe_ix ix_tup (pv 2) pe_int (fun _ _ => rfl))) pa_nil)))
    (pss_cons (ps_expr (pe_meth0 (pv 6) T.l_PlainMachine T.t_PlainMachine_work_off_waiting G_PlainMachine_work_off_waiting (hr.mono (by omega)) T.b_PlainMachine_work_off_waiting .nil (passes_call (takes_of rfl rfl rfl rfl) (fun _ _ _ _ h => h))))
    (pss_one (ps_ret (pe_tup (pa_cons (pe_meth0 (pv 6) T.l_PlainMachine T.t_PlainMachine_at_rest G_PlainMachine_at_rest (hr.mono (by omega)) T.b_PlainMachine_at_rest .nil pass0) (pa_cons pe_non (pa_cons (pe_callTy (T := "tuple") call_tuple_of rfl T.z_tuple (by decide +kernel) (pa_cons (pe_fld (pv 6) rfl) pa_nil)) pa_nil))))))))))))), ?_⟩
  obtain ⟨pa, sv, dv, p, m, most, rfl, hP, ok, hm, hm1, hm6, h⟩ := h
  refine ⟨_, rfl, _, rfl, by omega, by omega, ?_⟩
  rcases h with ⟨d, k, hD, hsm, hk, hno, rz⟩ | ⟨ws, nt, de, hS, hg, hde, hD, q, r⟩
  · refine ⟨_, rfl, _, rfl, .inl ⟨pa, dv, p, m, d, k, rfl, hP, ok, hD, hsm, hk, fun H1 s1 => ⟨_, rfl, if_true_of (by rw [hno]; rfl) ?_⟩⟩⟩
    exact ⟨_, rfl, made_one (rz.later s1)⟩
  refine ⟨_, rfl, _, rfl, .inl ⟨pa, dv, p, m, de.data, 12, rfl, hP, ok, hD.dp, deed_sm ok hde, by decide, fun H1 s1 => ⟨_, rfl, if_false_of (by rw [good_deed hde]; rfl) ?_⟩⟩⟩
  obtain ⟨sa, sx, rfl, hSS, hSX⟩ := Tn.tup_inv (Tn.same s1 hS)
  obtain ⟨wv, nv, rfl, hWv, hNv⟩ : ∃ wv nv, sx = [wv, nv] ∧ Tn K H1 wv (strsD ws) ∧ Tn K H1 nv (.tuple (nt.map noteD)) := by
    cases hSX with
    | cons a b => cases b with | cons c d => cases d; exact ⟨_, _, rfl, a, c⟩
  obtain ⟨wa, wx, rfl, hWS, hWX⟩ := Tn.tup_inv hWv
  obtain rfl := TnAll.strs_inv hWX
  obtain ⟨na, nx, rfl, hNS, hNX⟩ := Tn.tup_inv hNv
  have hP1 := hP.same s1
  have hD1 := Tn.same s1 hD
  have hSt := Tn.same s1 hS
  refine ⟨_, rfl, sa, _, rfl, hSS, rfl, _, _, rfl, _, _, rfl, rfl, ?_⟩
  refine ⟨_, rfl, _, rfl, _, rfl, _, rfl, fun x dx hx hdx hne => ?_⟩
  have hs : Same H1 (upd (upd H1 dx (.own x)) x (.ins T.c_PlainMachine dx [])) := (Same.new hdx _).trans (Same.new (by rw [upd_ne (Ne.symm hne)]; exact hx) _)
  refine ⟨x, dx, pa, wa, na, nx, p, m, ws, nt, most, H1, rfl, upd_same, hs, hx, hP1, ok, hWS, hg.wl, .inr hNS, hNX, fun A H3 hxA hpA s3 n1 n2 n3 n4 n5 hA => ⟨rfl, ?_⟩⟩
  subst hxA
  subst hpA
  have hn : A.New H1 := ⟨n1, n2, n3, n4, n5⟩
  have p0 : (atR ws nt).pot most = 16 * most := by show 0 + 16 * (most - 0) = _; omega
  have l0 : (atR ws nt).lro most = 16 * most := by show 0 + 16 * (most - 0) = _; omega
  have hD3 := Tn.same s3 hD1
  cases de with
  | rd c =>
    obtain ⟨da, dx', rfl, hDS, hDX⟩ := Tn.tup_inv hD3
    obtain rfl := TnAll.strs_inv (zs := ["read", c]) hDX
    refine ⟨_, rfl, da, _, 0, _, rfl, rfl, hDS, rfl, rfl, _, rfl, if_true_of (by decide +kernel) ?_⟩
    refine ⟨_, rfl, _, rfl, A.x, A.dx, _, rfl, hA.ob, by kernel_rfl, A, p, m, most, _, rfl, hA, ok, hm, hg.wl, fun kd H4 s4 hk => ⟨_, rfl, da, _, 1, _, rfl, rfl, SqT.same s4 hDS, rfl, kd, _, rfl, get_known hk (cells_has hg.wl hde), ?_⟩⟩
    refine ⟨by show 0 ≤ sizeLine; decide, fun t0 ht0 => ⟨by show 3 ≤ sizeLine; decide, fun t ht => ?_⟩⟩
    have z1 := Same.new ht0 (.tup [])
    have z2 := Same.new ht (.tup [V.ref sa, .str (knF (known0 p (atR ws nt).ws) c), .ref t0])
    exact q _ rfl (.ref t) _ ((s1.trans s3).trans (s4.trans (z1.trans z2))) (.tup (SqT.of upd_same) (.cons (Tn.same (s3.trans (s4.trans (z1.trans z2))) hSt) (.cons (.str _) (.cons (.tup (SqT.same z2 (SqT.of upd_same)) .nil) .nil))))
  | wr s w =>
    obtain ⟨da, dx', rfl, hDS, hDX⟩ := Tn.tup_inv hD3
    obtain rfl := TnAll.strs_inv (zs := ["write", s, w]) hDX
    refine ⟨_, rfl, da, _, 0, _, rfl, rfl, hDS, rfl, rfl, _, rfl, if_false_of (by decide +kernel) ?_⟩
    refine ⟨_, rfl, A.x, A.dx, _, rfl, hA.ob, by kernel_rfl, _, rfl, da, _, 0, _, rfl, rfl, hDS, rfl, rfl, _, rfl, if_true_of (by decide +kernel) ?_⟩
    have hci : ∀ c ∈ [(s, w)], c.1 ∈ p.sources ∧ c.2 ∈ p.words := fun c hc => by rw [List.mem_singleton.mp hc]; exact hde
    have eS : stepF p most (atR ws nt) (.wr s w) = (movF p most (atR ws nt) [(s, w)]).map stepD := rfl
    refine ⟨_, rfl, 1, rfl, ?_⟩
    try dsimp only [tNoPart]
    refine sl_all hDS fun p1 H3b s3b g1b => ?_
    refine ⟨by show 1 ≤ sizeLine; decide, fun ta hta => ?_⟩
    have z4 := Same.new hta (.tup [V.ref p1])
    have tw : Tn K (upd H3b ta (.tup [V.ref p1])) (.ref ta) (envD [(s, w)]) := Tn.new (.cons (.tup (K := K) (H := H3b) (ds := [.str s, .str w]) (by rw [cut_from1] at g1b; exact g1b) (TnAll.strs [s, w])) .nil) hta
    refine ⟨A, ta, [(s, w)], p, m, most, atR ws nt, H1, rfl, (hA.same s3b).same z4, (s3.trans s3b).trans z4, hn, hP1, ok, hm, hg, Nat.zero_le _, by omega, by unfold PM.lro at l0; omega, tw, by show 1 ≤ 16; decide, hci, fun M1 e1 H4 s4 h4' => ?_, fun e1 => (r (eS.trans (by unfold movF; rw [e1]; rfl))).later s1⟩
    obtain ⟨a1, a2, a3, a4⟩ := writeF_pot (fun q hq ws => (eff_few ok hm hq ws).wr) (Nat.zero_le _) hg.wl e1
    have a5 := writeF_lro ok hm (Nat.zero_le _) e1
    have g1 := good_write ok hm hg hci e1
    have eB : movF p most (atR ws nt) [(s, w)] = restF p most (16 * most + 1) M1 := by unfold movF; rw [e1]; rfl
    refine ⟨_, rfl, A.x, A.dx, _, rfl, h4'.ob, by kernel_rfl, A, p, m, most, 16 * most + 1, M1, H1, rfl, h4', s4, hn, hP1, ok, hm, g1, a1, by omega, by unfold PM.lro at a5 l0; omega, by omega, fun M2 e2 H5 s5 h5 => ?_, fun e2 => (r (eS.trans (by rw [eB, e2]; rfl))).later s1⟩
    have g2 := good_rest ok hm _ _ _ g1 e2
    refine ⟨_, rfl, A.x, A.dx, _, rfl, h5.ob, by kernel_rfl, A, p, m, most, M2, rfl, h5, ok, hm, g2.wl, fun t H6 s6 ht => ?_⟩
    obtain ⟨lx, l1, l2⟩ := h5.lg
    have f := fl_pl A most M2.rn
    refine ⟨_, rfl, A.x, _, A.dx, _, _, rfl, s6 _ _ h5.ob, T.l_PlainMachine, T.n_PlainMachine_log, f.2.2.2.2.2.1, A.ll, _, rfl, .inl ⟨SqL.of (s6 _ _ l1), fun l hl => ⟨by show 3 ≤ sizeLine; decide, fun t2 ht2 => ?_⟩⟩⟩
    have z1 := Same.new hl (.tup lx)
    have z2 := Same.new ht2 (.tup [V.ref t, .non, .ref l])
    exact q (stepD M2) (eS.trans (by rw [eB, e2]; rfl)) (.ref t2) _ ((s1.trans s5).trans (s6.trans (z1.trans z2))) (.tup (SqT.of upd_same) (.cons (Tn.same (z1.trans z2) ht) (.cons .non (.cons (.tup (SqT.same z2 (SqT.of upd_same)) (TnAll.keep (TK.of_same (s6.trans (z1.trans z2))) l2)) .nil))))
  | bt ps =>
    obtain ⟨da, dx', rfl, hDS, hDX⟩ := Tn.tup_inv hD3
    obtain ⟨b1, rfl, hB⟩ : ∃ b1, dx' = [.str "batch", b1] ∧ Tn K H3 b1 (envD ps) := by
      cases hDX with
      | cons a b => cases a; cases b with | cons c d => cases d; exact ⟨_, rfl, c⟩
    refine ⟨_, rfl, da, _, 0, _, rfl, rfl, hDS, rfl, rfl, _, rfl, if_false_of (by decide +kernel) ?_⟩
    refine ⟨_, rfl, A.x, A.dx, _, rfl, hA.ob, by kernel_rfl, _, rfl, da, _, 0, _, rfl, rfl, hDS, rfl, rfl, _, rfl, if_false_of (by decide +kernel) ?_⟩
    obtain ⟨k1, k2, hci, k4⟩ := hde
    have eS : stepF p most (atR ws nt) (.bt ps) = (movF p most (atR ws nt) ps).map stepD := rfl
    obtain ⟨ba, bx, rfl, hBS, hBX⟩ := Tn.tup_inv hB
    refine ⟨_, rfl, da, _, 1, _, rfl, rfl, hDS, rfl, ?_⟩
    refine ⟨A, ba, ps, p, m, most, atR ws nt, H1, rfl, hA, s3, hn, hP1, ok, hm, hg, Nat.zero_le _, by omega, by unfold PM.lro at l0; omega, hB, by omega, hci, fun M1 e1 H4 s4 h4' => ?_, fun e1 => (r (eS.trans (by unfold movF; rw [e1]; rfl))).later s1⟩
    obtain ⟨a1, a2, a3, a4⟩ := writeF_pot (fun q hq ws => (eff_few ok hm hq ws).wr) (Nat.zero_le _) hg.wl e1
    have a5 := writeF_lro ok hm (Nat.zero_le _) e1
    have g1 := good_write ok hm hg hci e1
    have eB : movF p most (atR ws nt) ps = restF p most (16 * most + 1) M1 := by unfold movF; rw [e1]; rfl
    refine ⟨_, rfl, A.x, A.dx, _, rfl, h4'.ob, by kernel_rfl, A, p, m, most, 16 * most + 1, M1, H1, rfl, h4', s4, hn, hP1, ok, hm, g1, a1, by omega, by unfold PM.lro at a5 l0; omega, by omega, fun M2 e2 H5 s5 h5 => ?_, fun e2 => (r (eS.trans (by rw [eB, e2]; rfl))).later s1⟩
    have g2 := good_rest ok hm _ _ _ g1 e2
    refine ⟨_, rfl, A.x, A.dx, _, rfl, h5.ob, by kernel_rfl, A, p, m, most, M2, rfl, h5, ok, hm, g2.wl, fun t H6 s6 ht => ?_⟩
    obtain ⟨lx, l1, l2⟩ := h5.lg
    have f := fl_pl A most M2.rn
    refine ⟨_, rfl, A.x, _, A.dx, _, _, rfl, s6 _ _ h5.ob, T.l_PlainMachine, T.n_PlainMachine_log, f.2.2.2.2.2.1, A.ll, _, rfl, .inl ⟨SqL.of (s6 _ _ l1), fun l hl => ⟨by show 3 ≤ sizeLine; decide, fun t2 ht2 => ?_⟩⟩⟩
    have z1 := Same.new hl (.tup lx)
    have z2 := Same.new ht2 (.tup [V.ref t, .non, .ref l])
    exact q (stepD M2) (eS.trans (by rw [eB, e2]; rfl)) (.ref t2) _ ((s1.trans s5).trans (s6.trans (z1.trans z2))) (.tup (SqT.of upd_same) (.cons (Tn.same (z1.trans z2) ht) (.cons .non (.cons (.tup (SqT.same z2 (SqT.of upd_same)) (TnAll.keep (TK.of_same (s6.trans (z1.trans z2))) l2)) .nil))))
end
end K68
namespace K68
open PySem PySem.Spec PyProof.Rows L2 Td
def toldK (n s w : Addr) : List (Key × V) := [(.inr "notes", .ref n), (.inr "says", .ref s), (.inr "writes", .ref w)]
theorem toldK_get (n s w : Addr) : valV (toldK n s w) (.inr "notes" : Key) = some (.ref n) ∧ valV (toldK n s w) (.inr "says" : Key) = some (.ref s) ∧ valV (toldK n s w) (.inr "writes" : Key) = some (.ref w) := ⟨by kernel_rfl, by kernel_rfl, by kernel_rfl⟩
theorem toldK_merge (n s w : Addr) : mergeK [] (toldK n s w) = toldK n s w := by kernel_rfl
/-- where the law's run of an effect lies -/
structure EA where
  ps : Addr
  rc : Addr
  rn : Addr
  rs : Addr
  rw : Addr
structure EfAt (K : PySem.W.Frag) (H0 H : Hp) (A : EA) (st : RS) : Prop where
  same : Same H0 H
  f1 : H0 A.ps = none
  f2 : H0 A.rn = none
  f3 : H0 A.rs = none
  f4 : H0 A.rw = none
  d0 : A.rc ≠ A.ps
  d1 : A.rn ≠ A.rs
  d2 : A.rn ≠ A.rw
  d3 : A.rs ≠ A.rw
  sl : H A.ps = some (.dK (kv st.slots))
  rc : H A.rc = some (.dK (toldK A.rn A.rs A.rw))
  no : ∃ xs, H A.rn = some (.lst xs) ∧ TnAll K H xs (st.noted.map wrD)
  sa : H A.rs = some (.lst (st.said.map V.str))
  wr : ∃ xs, H A.rw = some (.lst xs) ∧ TnAll K H xs (st.written.map wrD)
section
variable {K : PySem.W.Frag} {H0 H H' : Hp} {A : EA} {st : RS}
theorem EfAt.go (h : EfAt K H0 H A st) (s : Same H H') : EfAt K H0 H' A st := by
  obtain ⟨a, f1, f2, f3, f4, d0, d1, d2, d3, e1, e2, ⟨xs, n1, n2⟩, e3, ⟨ys, w1, w2⟩⟩ := h
  have tk := TK.of_same s
  exact ⟨a.trans s, f1, f2, f3, f4, d0, d1, d2, d3, s _ _ e1, s _ _ e2, ⟨xs, s _ _ n1, TnAll.keep tk n2⟩, s _ _ e3, ⟨ys, s _ _ w1, TnAll.keep tk w2⟩⟩
theorem EfAt.slots (h : EfAt K H0 H A st) (L : Td.Env) {st' : RS} (e : st'.noted = st.noted ∧ st'.said = st.said ∧ st'.written = st.written) (es : st'.slots = L) : EfAt K H0 (upd H A.ps (.dK (kv L))) A st' := by
  obtain ⟨a, f1, f2, f3, f4, d0, d1, d2, d3, e1, e2, ⟨xs, n1, n2⟩, e3, ⟨ys, w1, w2⟩⟩ := h
  have tk : TK H (upd H A.ps (.dK (kv L))) := TK.upd (by rw [e1]; trivial)
  exact ⟨own_same a f1, f1, f2, f3, f4, d0, d1, d2, d3, by rw [es]; exact upd_same, by rw [upd_ne d0]; exact e2, ⟨xs, by rw [upd_ne (ne_of n1 e1 (by intro z; cases z))]; exact n1, by rw [e.1]; exact TnAll.keep tk n2⟩, by rw [e.2.1, upd_ne (ne_of e3 e1 (by intro z; cases z))]; exact e3, ⟨ys, by rw [upd_ne (ne_of w1 e1 (by intro z; cases z))]; exact w1, by rw [e.2.2]; exact TnAll.keep tk w2⟩⟩
theorem EfAt.note (h : EfAt K H0 H A st) {xs : List V} {L : Td.Env} (hx : TnAll K H xs (L.map wrD)) {st' : RS} (e : st'.slots = st.slots ∧ st'.said = st.said ∧ st'.written = st.written) (es : st'.noted = L) : EfAt K H0 (upd H A.rn (.lst xs)) A st' := by
  obtain ⟨a, f1, f2, f3, f4, d0, d1, d2, d3, e1, e2, ⟨xs0, n1, n2⟩, e3, ⟨ys, w1, w2⟩⟩ := h
  have tk : TK H (upd H A.rn (.lst xs)) := TK.upd (by rw [n1]; trivial)
  exact ⟨own_same a f2, f1, f2, f3, f4, d0, d1, d2, d3, by rw [e.1, upd_ne (ne_of e1 n1 (by intro z; cases z))]; exact e1, by rw [upd_ne (ne_of e2 n1 (by intro z; cases z))]; exact e2, ⟨xs, upd_same, by rw [es]; exact TnAll.keep tk hx⟩, by rw [e.2.1, upd_ne (Ne.symm d1)]; exact e3, ⟨ys, by rw [upd_ne (Ne.symm d2)]; exact w1, by rw [e.2.2]; exact TnAll.keep tk w2⟩⟩
theorem EfAt.say (h : EfAt K H0 H A st) {L : List Str} {st' : RS} (e : st'.slots = st.slots ∧ st'.noted = st.noted ∧ st'.written = st.written) (es : st'.said = L) : EfAt K H0 (upd H A.rs (.lst (L.map V.str))) A st' := by
  obtain ⟨a, f1, f2, f3, f4, d0, d1, d2, d3, e1, e2, ⟨xs, n1, n2⟩, e3, ⟨ys, w1, w2⟩⟩ := h
  have tk : TK H (upd H A.rs (.lst (L.map V.str))) := TK.upd (by rw [e3]; trivial)
  exact ⟨own_same a f3, f1, f2, f3, f4, d0, d1, d2, d3, by rw [e.1, upd_ne (ne_of e1 e3 (by intro z; cases z))]; exact e1, by rw [upd_ne (ne_of e2 e3 (by intro z; cases z))]; exact e2, ⟨xs, by rw [upd_ne d1]; exact n1, by rw [e.2.1]; exact TnAll.keep tk n2⟩, by rw [es]; exact upd_same, ⟨ys, by rw [upd_ne (Ne.symm d3)]; exact w1, by rw [e.2.2]; exact TnAll.keep tk w2⟩⟩
theorem EfAt.write (h : EfAt K H0 H A st) {xs : List V} {L : Td.Env} (hx : TnAll K H xs (L.map wrD)) {st' : RS} (e : st'.slots = st.slots ∧ st'.noted = st.noted ∧ st'.said = st.said) (es : st'.written = L) : EfAt K H0 (upd H A.rw (.lst xs)) A st' := by
  obtain ⟨a, f1, f2, f3, f4, d0, d1, d2, d3, e1, e2, ⟨xs0, n1, n2⟩, e3, ⟨ys, w1, w2⟩⟩ := h
  have tk : TK H (upd H A.rw (.lst xs)) := TK.upd (by rw [w1]; trivial)
  exact ⟨own_same a f4, f1, f2, f3, f4, d0, d1, d2, d3, by rw [e.1, upd_ne (ne_of e1 w1 (by intro z; cases z))]; exact e1, by rw [upd_ne (ne_of e2 w1 (by intro z; cases z))]; exact e2, ⟨xs0, by rw [upd_ne d2]; exact n1, by rw [e.2.1]; exact TnAll.keep tk n2⟩, by rw [e.2.2, upd_ne d3]; exact e3, ⟨xs, upd_same, by rw [es]; exact TnAll.keep tk hx⟩⟩
end
theorem sd_keys {L : Td.Env} {k v : Str} : sdE L k v = if k ∈ L.map (·.1) then L else L ++ [(k, v)] := by
  have ea : (L.any fun p => decide (p.1 = k)) = decide (k ∈ L.map (·.1)) := by
    by_cases h : k ∈ L.map (·.1)
    · rw [decide_eq_true h]
      obtain ⟨q, hq, e⟩ := List.mem_map.mp h
      exact List.any_eq_true.mpr ⟨q, hq, decide_eq_true e⟩
    · rw [decide_eq_false h]
      exact List.any_eq_false.mpr fun q hq hh => h (List.mem_map.mpr ⟨q, hq, of_decide_eq_true hh⟩)
  unfold sdE putE
  rw [← getE_any, ea]
  by_cases h : k ∈ L.map (·.1)
  · rw [if_pos (decide_eq_true h), if_pos h]
  · rw [if_neg (by rw [decide_eq_false h]; decide), if_neg (by rw [decide_eq_false h]; decide), if_neg h]
theorem okRs_take {S : Sc} {dep : Nat} : ∀ (i : Nat) {rs : List Td.Row}, okRs S dep rs → okRs S dep (rs.take i)
  | 0, rs, _ => by rw [List.take_zero]; unfold okRs; trivial
  | i + 1, [], _ => by rw [List.take_nil]; unfold okRs; trivial
  | i + 1, r :: rs, h => by
    unfold okRs at h
    rw [List.take_succ_cons]
    unfold okRs
    exact ⟨h.1, okRs_take i h.2⟩
mutual
/-- an effect's rows never end it -/
theorem noGive_R {S : Sc} (kn : Str → Str) (d : Str) (h : S.eff = true) : ∀ (r : Td.Row) (dep : Nat) (st : RS), okR S dep r → (runR kn d r st).2 = false
  | .rd pk a s, _, st, _ => by simp only [runR]
  | .put s u, _, st, _ => by simp only [runR]
  | .give s, _, st, o => by unfold okR at o; rw [h] at o; exact nomatch o.1
  | .say s, _, st, _ => by simp only [runR]
  | .wr a s, _, st, _ => by simp only [runR]
  | .ite s u y n, dep, st, o => by
    unfold okR at o
    simp only [runR]
    split
    · exact noGive_Rs kn d h y (dep + 1) st o.2.2.2.1
    · exact noGive_Rs kn d h n (dep + 1) st o.2.2.2.2
theorem noGive_Rs {S : Sc} (kn : Str → Str) (d : Str) (h : S.eff = true) : ∀ (rs : List Td.Row) (dep : Nat) (st : RS), okRs S dep rs → (runRs kn d rs st).2 = false
  | [], _, st, _ => by simp only [runRs]
  | r :: rs, dep, st, o => by
    unfold okRs at o
    have h1 := noGive_R kn d h r dep st o.1
    rw [runRs_no _ (by rw [h1]; decide)]
    exact noGive_Rs kn d h rs dep _ o.2
end
def spEffect (K : PySem.W.Frag) (k : Nat) : Sp := fun vs H Q _ => ∃ (pv v : V) (td : Addr) (A : EA) (p : PP) (m : Nat) (H0 : Hp) (st : RS) (kn : Td.Env) (rs : List Td.Row) (n : Nat) (S : Sc) (dep : Nat), vs = [pv, v, .ref td, .ref A.ps, .ref A.rc] ∧ Tn K H0 pv p.data ∧ p.Ok m ∧ EfAt K H0 H A st ∧ H0 td = some (.dK (kv kn)) ∧
  Dp K H0 v (.tuple (rowsD rs)) ∧ okRs S dep rs ∧ S.eff = true ∧ (∀ c ∈ S.readable, (getE kn c).isSome = true) ∧ st.Few n ∧ n + cnts rs ≤ 500 ∧ dep ≤ 4 ∧ 5 ≤ dep + k ∧
  ∀ H', EfAt K H0 H' A (runRs (knF kn) (d0 p) rs st).1 → Q .non H'
section
variable {P : Program} {w : World} {K : PySem.W.Frag} {mg : Str → Option Value} {base : Heap}
theorem ok_effect1 (T : Tops w K mg) {n : Nat} (G__law_effect : FnOk P w K mg base CX0 n T.a__law_effect T.d__law_effect ["_law_parts_here", "_law_rows_here", "_law_table", "_law_slots", "_law_told"] (spEffect K n)) :
    FnOk P w K mg base CX0 (n + 1) T.a__law_effect T.d__law_effect ["_law_parts_here", "_law_rows_here", "_law_table", "_law_slots", "_law_told"] (spEffect K (n + 1)) := by
  refine T.F__law_effect.ok sc_law_effect (fun vs H Q E h => ?_) (fun cdv AR outer s H vs Q E hr h => ?_)
  · obtain ⟨pv, v, td, A, p, m, H0, st, kn, rs, m', S, dep, rfl, _⟩ := h
    rfl
  obtain ⟨pv, v, td, A, p, pm, H0, st, kn, rs, m, S, dep, rfl, hPd, pok, hO, hK, hD, ok, heff, hrd, few, hm, hdep, hn, q⟩ := h
  obtain ⟨a, xs, rfl, hS, hl, hx⟩ := rows_at hD
  obtain ⟨pa, aw, as, vd, ve, rfl, hP, h1, h2, h3, h4⟩ := parts_at hPd
  refine ⟨_, (pss_cons (ps_set (i := 5) sc_law_effect.nd rfl (Or.inl rfl) (pe_ix ix_tup (pe_ix ix_tup (pv 0) pe_int (fun _ _ => rfl)) pe_int (fun _ _ => rfl)))
    (pss_one (ps_for PassesOwn.never rfl (pi_tup (pv 1)) (pg_name (i := 6) sc_law_effect.nd rfl (Or.inl rfl)) (pss_one (ps_if (PW.pt (pw_or (pt_cmpR op_eq (pe_ix ix_tup (pv 6) pe_int (fun _ _ => rfl)) pe_str (nomark _)) (pw_or1 (pt_cmpR op_eq (pe_ix ix_tup (pv 6) pe_int (fun _ _ => rfl)) pe_str (nomark _))))) (pss_cons (ps_dput (hu_of hr) (pv 3) (pe_ix ix_tup (pv 6) pe_int (fun _ _ => rfl)) (pe_dget (hu_of hr) (pv 2) (pe_ix ix_tup (pv 6) pe_int (fun _ _ => rfl)) (fun _ _ => rfl)) rfl)
    (pss_one (ps_if (PW.pt (pw_and (pt_cmpR op_eq (pe_ix ix_tup (pv 6) pe_int (fun _ _ => rfl)) pe_str (nomark _)) (pw_and1 (pt_cmpR op_notIn_seq (pe_ix ix_tup (pv 6) pe_int (fun _ _ => rfl)) (pe_lc (own := [(("_law_pair" : Str), 8)]) (wi := (iList K (tDGet (tVar 4) (tC (.str "notes"))))) (g := gName 8) (tt := tYes) (te := (tOp (rIxT K) (tVar 8) (tC (.int 0)))) rfl sc_law_effect.nd (pi_list (pe_dget (hu_of hr) (pv 4) pe_str (fun _ _ => rfl))) (blkOk_by (own := [(("_law_pair" : Str), 8)]) (N := N_law_effect) (sc := defScope s_law_effect) (by decide +kernel)) (fun _ _ _ _ _ => (pg_name (i := 8) sc_law_effect.nd rfl (Or.inl rfl))) (fun _ _ _ _ _ => pts_nil) (fun _ _ _ _ _ => (pe_ix (r := (rIxT K)) ix_tup (pv 8) pe_int (fun _ _ => rfl)))) (by rfl))))) (pss_one (ps_expr (pe_bm PySem.F.plainAttrs_list PySem.F.slot_list_append PySem.F.type_list_append mt_append (pe_dget (hu_of hr) (pv 4) pe_str (fun _ _ => rfl)) (pa_cons (pe_tup (pa_cons (pe_ix ix_tup (pv 6) pe_int (fun _ _ => rfl)) (pa_cons (pe_dget (hu_of hr) (pv 2) (pe_ix ix_tup (pv 6) pe_int (fun _ _ => rfl)) (fun _ _ => rfl)) pa_nil))) pa_nil)))) pss_nil))) (pss_one (ps_if (pt_cmpR op_eq (pe_ix ix_tup (pv 6) pe_int (fun _ _ => rfl)) pe_str (nomark _)) (pss_one (ps_dput (hu_of hr) (pv 3) (pe_ix ix_tup (pv 6) pe_int (fun _ _ => rfl)) (pe_ix ix_tup (pv 6) pe_int (fun _ _ => rfl)) rfl)) (pss_one (ps_if (pt_cmpR op_eq (pe_ix ix_tup (pv 6) pe_int (fun _ _ => rfl)) pe_str (nomark _)) (pss_one (ps_expr (pe_bm PySem.F.plainAttrs_list PySem.F.slot_list_append PySem.F.type_list_append mt_append (pe_dget (hu_of hr) (pv 4) pe_str (fun _ _ => rfl)) (pa_cons (pe_dget2 (hu_of hr) (pv 3) (pe_ix ix_tup (pv 6) pe_int (fun _ _ => rfl)) (pv 5) ⟨rfl, rfl, rfl, rfl⟩) pa_nil)))) (pss_one (ps_if (pt_cmpR op_eq (pe_ix ix_tup (pv 6) pe_int (fun _ _ => rfl)) pe_str (nomark _)) (pss_one (ps_expr (pe_bm PySem.F.plainAttrs_list PySem.F.slot_list_append PySem.F.type_list_append mt_append (pe_dget (hu_of hr) (pv 4) pe_str (fun _ _ => rfl)) (pa_cons (pe_tup (pa_cons (pe_ix ix_tup (pv 6) pe_int (fun _ _ => rfl)) (pa_cons (pe_dget2 (hu_of hr) (pv 3) (pe_ix ix_tup (pv 6) pe_int (fun _ _ => rfl)) (pv 5) ⟨rfl, rfl, rfl, rfl⟩) pa_nil))) pa_nil)))) (pss_cons (ps_set (i := 7) sc_law_effect.nd rfl (Or.inl rfl) (pe_ifExp (pt_cmpR op_eq (pe_dget2 (hu_of hr) (pv 3) (pe_ix ix_tup (pv 6) pe_int (fun _ _ => rfl)) (pv 5) ⟨rfl, rfl, rfl, rfl⟩) (pe_ix ix_tup (pv 6) pe_int (fun _ _ => rfl)) (nomark _)) (pe_ix ix_tup (pv 6) pe_int (fun _ _ => rfl)) (pe_ix ix_tup (pv 6) pe_int (fun _ _ => rfl))))
    (pss_one (ps_expr (pe_call G__law_effect (hr.mono (by omega)) rfl T.m__law_effect T.F__law_effect.kp T.b__law_effect .nil pass0 (pa_cons (pv 0) (pa_cons (pv 7) (pa_cons (pv 2) (pa_cons (pv 3) (pa_cons (pv 4) pa_nil)))))))))))))))))))), ?_⟩
  have sH := hO.same
  refine ⟨_, rfl, pa, _, 0, _, rfl, rfl, SqT.same sH hP, rfl, aw, _, 0, _, rfl, rfl, SqT.same sH h1, d0_at pok, ?_⟩
  refine ⟨_, rfl, a, rfl, ⟨_, SqT.same sH hS⟩, for_tup (K := K) (a := a) (xs := xs) (fun i σ H' => ∃ (v6 v7 : Option V), σ = [some (.ref pa), some (.ref a), some (.ref td), some (.ref A.ps), some (.ref A.rc), some (.str (d0 p)), v6, v7, none] ∧
      EfAt K H0 H' A (runRs (knF kn) (d0 p) (rs.take i) st).1)
    ⟨none, none, rfl, by simpa [runRs] using hO⟩ (fun i σ H' _ ⟨_, _, _, h⟩ => SqT.same h.same hS) ?_ ?_⟩
  · rintro i x σ H1 hi ⟨v6, v7, rfl, hO1⟩
    obtain ⟨r, hr2, hDr⟩ := hx i x hi
    have okr := okRs_get ok hr2
    have hcn : Td.cnt r + cnts (rs.take i) ≤ cnts rs := cnts_get hr2
    have okt : okRs S dep (rs.take i) := okRs_take i ok
    have hf := noGive_Rs (knF kn) (d0 p) heff (rs.take i) dep st okt
    have nxt := runRs_next (kn := knF kn) (d := d0 p) hr2 hf
    have few1 := few_Rs (knF kn) (d0 p) (rs.take i) st m few
    generalize (runRs (knF kn) (d0 p) (rs.take i) st).1 = st1 at hO1 nxt few1
    have f1 := few1.sl
    have f2 := few1.no
    have f3 := few1.sa
    have f4 := few1.wr
    have hrp := cnt_pos r
    have gN : ∀ {X : Hp}, EfAt K H0 X A st1 ∨ (∃ st2, EfAt K H0 X A st2) → DGet X A.rc (.str "notes") (some (.ref A.rn)) ∧ DGet X A.rc (.str "says") (some (.ref A.rs)) ∧ DGet X A.rc (.str "writes") (some (.ref A.rw)) := fun {X} h => by
      obtain ⟨st2, h⟩ : ∃ st2, EfAt K H0 X A st2 := h.elim (fun h => ⟨_, h⟩) id
      obtain ⟨k1, k2, k3⟩ := toldK_get A.rn A.rs A.rw
      refine ⟨?_, ?_, ?_⟩
      · have g := DGet.k (k := .inr "notes") h.rc; rw [k1] at g; exact g
      · have g := DGet.k (k := .inr "says") h.rc; rw [k2] at g; exact g
      · have g := DGet.k (k := .inr "writes") h.rc; rw [k3] at g; exact g
    cases r with
    | give s => unfold okR at okr; rw [heff] at okr; exact nomatch okr.1
    | rd pk c s =>
      unfold okR at okr
      have hkn : ∀ {X : Hp}, Same H0 X → DGet X td (.str c) (some (.str (knF kn c))) := fun sx => get_known (sx _ _ hK) (hrd c okr.2.1)
      obtain ⟨ar, rfl, hSr0⟩ := rd_at hDr
      have hSr := SqT.same hO1.same hSr0
      cases pk with
      | true =>
        refine ⟨_, rfl, ar, _, 0, _, rfl, rfl, hSr, rfl, rfl, _, rfl, if_false_of (by decide +kernel) ⟨_, rfl, ar, _, 0, _, rfl, rfl, hSr, rfl, rfl, _, rfl, if_true_of (by decide +kernel) ?_⟩⟩
        refine ⟨_, rfl, _, rfl, ar, _, 1, _, rfl, rfl, hSr, rfl, td, _, rfl, hkn hO1.same, _, rfl, _, rfl, ar, _, 2, _, rfl, rfl, hSr, rfl, A.ps, _, rfl, put_kv hO1.sl (small1000 (by omega)), ?_⟩
        have eR : runR (knF kn) (d0 p) (.rd true c s) st1 = ({ st1 with slots := putE st1.slots s (knF kn c), peeked := sdE st1.peeked c (knF kn c) }, false) := by simp [runR]
        have hO2 := hO1.slots (putE st1.slots s (knF kn c)) (st' := { st1 with slots := putE st1.slots s (knF kn c), peeked := sdE st1.peeked c (knF kn c) }) ⟨rfl, rfl, rfl⟩ rfl
        have hSr := SqT.same hO2.same hSr0
        exact ⟨_, rfl, ar, _, 0, _, rfl, rfl, hSr, rfl, rfl, _, rfl, if_false_of (by decide +kernel) (if_false_of rfl ⟨_, _, rfl, by rw [nxt, eR]; exact hO2⟩)⟩
      | false =>
        refine ⟨_, rfl, ar, _, 0, _, rfl, rfl, hSr, rfl, rfl, _, rfl, if_true_of (by decide +kernel) (if_true_of rfl ?_)⟩
        refine ⟨_, rfl, _, rfl, ar, _, 1, _, rfl, rfl, hSr, rfl, td, _, rfl, hkn hO1.same, _, rfl, _, rfl, ar, _, 2, _, rfl, rfl, hSr, rfl, A.ps, _, rfl, put_kv hO1.sl (small1000 (by omega)), ?_⟩
        have eR : runR (knF kn) (d0 p) (.rd false c s) st1 = ({ st1 with slots := putE st1.slots s (knF kn c), noted := sdE st1.noted c (knF kn c) }, false) := by simp [runR]
        have hO2 := hO1.slots (putE st1.slots s (knF kn c)) (st' := { st1 with slots := putE st1.slots s (knF kn c) }) ⟨rfl, rfl, rfl⟩ rfl
        dsimp only
        generalize upd H1 A.ps (.dK (kv (putE st1.slots s (knF kn c)))) = H2 at hO2
        have hSr := SqT.same hO2.same hSr0
        obtain ⟨ys, n1, n2⟩ := hO2.no
        have yl : ys.length = st1.noted.length := n_len n2
        refine ⟨_, rfl, ar, _, 0, _, rfl, rfl, hSr, rfl, rfl, _, rfl, if_true_of (by decide +kernel) ?_⟩
        refine ⟨_, rfl, ar, _, 1, _, rfl, rfl, hSr, rfl, _, rfl, A.rc, _, rfl, (gN (.inr ⟨_, hO2⟩)).1, A.rn, rfl, ⟨_, SqL.of n1⟩, fun D hD => fiS_list (ys.zip st1.noted) Prod.fst (fun _ => true) (fun e => V.str e.2.1) (SqL.of n1) (List.map_fst_zip (Nat.le_of_eq yl)).symm (by rw [List.length_zip]; omega) hD ?_ ?_⟩
        · rintro j e H' he s' Yes No yes no
          obtain ⟨e1, e2⟩ := List.getElem?_zip_eq_some.mp he
          obtain ⟨d, hd, hdx⟩ := TnAll.get n2 e1
          rw [List.getElem?_map, e2] at hd
          cases hd
          obtain ⟨b2, ex, hB2⟩ := wr_str hdx
          rw [ex]
          exact ⟨rfl, tYes_of ⟨_, rfl, b2, _, 0, _, rfl, rfl, SqT.same s' hB2, rfl, yes rfl _ (Same.refl _)⟩⟩
        rintro H3 s3 hb
        have hb' : H3 D = some (.lst ((st1.noted.map (·.1)).map V.str)) := by
          rw [hb, Td.filter_all]
          congr 2
          rw [show (fun e : V × (Str × Str) => V.str e.2.1) = (fun e : Str × Str => V.str e.1) ∘ Prod.snd from rfl, ← List.map_map, List.map_snd_zip (Nat.le_of_eq yl.symm), List.map_map]
          rfl
        have hO3 := hO2.go s3
        have hSr := SqT.same s3 hSr
        refine ⟨D, _, rfl, .inl (SqL.of hb'), rfl, L2.flat_strs _, _, rfl, ?_⟩
        rw [inV_strs]
        have esd := sd_keys (L := st1.noted) (k := c) (v := knF kn c)
        by_cases hin : c ∈ st1.noted.map (·.1)
        · rw [if_pos hin] at esd
          refine if_false_of (by rw [decide_eq_true hin]; rfl) ⟨_, _, rfl, ?_⟩
          rw [nxt, eR]
          have hO4 : EfAt K H0 H3 A { st1 with slots := putE st1.slots s (knF kn c), noted := sdE st1.noted c (knF kn c) } := by rw [esd]; exact hO3
          exact hO4
        · rw [if_neg hin] at esd
          refine if_true_of (by rw [decide_eq_false hin]; rfl) ?_
          have n1' := s3 _ _ n1
          refine ⟨_, rfl, A.rc, _, rfl, (gN (.inr ⟨_, hO3⟩)).1, .inl ⟨rfl, _, SqL.of n1'⟩, _, rfl, ar, _, 1, _, rfl, rfl, hSr, rfl, _, rfl, _, rfl, ar, _, 1, _, rfl, rfl, hSr, rfl, td, _, rfl, hkn hO3.same, by show 2 ≤ sizeLine; decide, fun pt hpt => ?_⟩
          have z4 := Same.new hpt (.tup [V.str c, .str (knF kn c)])
          refine ⟨A.rn, ys, _, rfl, rfl, z4 _ _ n1', small1000 (by omega), ⟨_, _, rfl, ?_⟩⟩
          rw [nxt, eR]
          have hO4 := hO3.go z4
          refine hO4.note (L := sdE st1.noted c (knF kn c)) ?_ ⟨rfl, rfl, rfl⟩ rfl
          rw [esd, List.map_append]
          exact TnAll.append (TnAll.keep (TK.of_same (s3.trans z4)) n2) (TnAll.one (Tn.new (.cons (.str _) (.cons (.str _) .nil)) hpt))
    | put s u =>
      obtain ⟨ar, rfl, hSr0⟩ := put_at hDr
      have hSr := SqT.same hO1.same hSr0
      refine ⟨_, rfl, ar, _, 0, _, rfl, rfl, hSr, rfl, rfl, _, rfl, if_false_of (by decide +kernel) ⟨_, rfl, ar, _, 0, _, rfl, rfl, hSr, rfl, rfl, _, rfl, if_false_of (by decide +kernel) ?_⟩⟩
      refine ⟨_, rfl, ar, _, 0, _, rfl, rfl, hSr, rfl, rfl, _, rfl, if_true_of (by decide +kernel) ?_⟩
      refine ⟨_, rfl, ar, _, 2, _, rfl, rfl, hSr, rfl, _, rfl, _, rfl, ar, _, 1, _, rfl, rfl, hSr, rfl, A.ps, _, rfl, put_kv hO1.sl (small1000 (by omega)), ?_⟩
      have eR : runR (knF kn) (d0 p) (.put s u) st1 = ({ st1 with slots := putE st1.slots s u }, false) := by simp only [runR]
      refine ⟨_, _, rfl, ?_⟩
      rw [nxt, eR]
      exact hO1.slots _ ⟨rfl, rfl, rfl⟩ rfl
    | say s =>
      obtain ⟨ar, rfl, hSr0⟩ := say_at hDr
      have hSr := SqT.same hO1.same hSr0
      refine ⟨_, rfl, ar, _, 0, _, rfl, rfl, hSr, rfl, rfl, _, rfl, if_false_of (by decide +kernel) ⟨_, rfl, ar, _, 0, _, rfl, rfl, hSr, rfl, rfl, _, rfl, if_false_of (by decide +kernel) ?_⟩⟩
      refine ⟨_, rfl, ar, _, 0, _, rfl, rfl, hSr, rfl, rfl, _, rfl, if_false_of (by decide +kernel) ?_⟩
      refine ⟨_, rfl, ar, _, 0, _, rfl, rfl, hSr, rfl, rfl, _, rfl, if_true_of (by decide +kernel) ?_⟩
      refine ⟨_, rfl, A.rc, _, rfl, (gN (.inl hO1)).2.1, .inl ⟨rfl, _, SqL.of hO1.sa⟩, _, rfl, A.ps, rfl, .inl ⟨_, .inl hO1.sl⟩, _, rfl, ar, _, 1, _, rfl, rfl, hSr, rfl, _, rfl, _, DGet.k (k := .inr s) hO1.sl, ?_⟩
      dsimp only
      rw [slot_get]
      refine ⟨A.rs, _, _, rfl, rfl, hO1.sa, small1000 (by rw [List.length_map]; omega), ⟨_, _, rfl, ?_⟩⟩
      have eR : runR (knF kn) (d0 p) (.say s) st1 = ({ st1 with said := st1.said ++ [st1.word (d0 p) s] }, false) := by simp only [runR]
      rw [nxt, eR]
      have hO2 := hO1.say (L := st1.said ++ [st1.word (d0 p) s]) (st' := { st1 with said := st1.said ++ [st1.word (d0 p) s] }) ⟨rfl, rfl, rfl⟩ rfl
      rw [List.map_append] at hO2
      exact hO2
    | wr c s =>
      obtain ⟨ar, rfl, hSr0⟩ := wr_at hDr
      have hSr := SqT.same hO1.same hSr0
      refine ⟨_, rfl, ar, _, 0, _, rfl, rfl, hSr, rfl, rfl, _, rfl, if_false_of (by decide +kernel) ⟨_, rfl, ar, _, 0, _, rfl, rfl, hSr, rfl, rfl, _, rfl, if_false_of (by decide +kernel) ?_⟩⟩
      refine ⟨_, rfl, ar, _, 0, _, rfl, rfl, hSr, rfl, rfl, _, rfl, if_false_of (by decide +kernel) ?_⟩
      refine ⟨_, rfl, ar, _, 0, _, rfl, rfl, hSr, rfl, rfl, _, rfl, if_false_of (by decide +kernel) ?_⟩
      refine ⟨_, rfl, ar, _, 0, _, rfl, rfl, hSr, rfl, rfl, _, rfl, if_true_of (by decide +kernel) ?_⟩
      obtain ⟨ys, w1, w2⟩ := hO1.wr
      have yl : ys.length = st1.written.length := n_len w2
      refine ⟨_, rfl, A.rc, _, rfl, (gN (.inl hO1)).2.2, .inl ⟨rfl, _, SqL.of w1⟩, _, rfl, ar, _, 1, _, rfl, rfl, hSr, rfl, _, rfl, A.ps, rfl, .inl ⟨_, .inl hO1.sl⟩, _, rfl, ar, _, 2, _, rfl, rfl, hSr, rfl, _, rfl, _, DGet.k (k := .inr s) hO1.sl, by show 2 ≤ sizeLine; decide, fun pt hpt => ?_⟩
      dsimp only
      rw [slot_get]
      have z4 := Same.new hpt (.tup [V.str c, .str (st1.word (d0 p) s)])
      refine ⟨A.rw, ys, _, rfl, rfl, z4 _ _ w1, small1000 (by omega), ⟨_, _, rfl, ?_⟩⟩
      have eR : runR (knF kn) (d0 p) (.wr c s) st1 = ({ st1 with written := st1.written ++ [(c, st1.word (d0 p) s)] }, false) := by simp only [runR]
      rw [nxt, eR]
      refine (hO1.go z4).write (L := st1.written ++ [(c, st1.word (d0 p) s)]) ?_ ⟨rfl, rfl, rfl⟩ rfl
      rw [List.map_append]
      exact TnAll.append (TnAll.keep (TK.of_same z4) w2) (TnAll.one (Tn.new (.cons (.str _) (.cons (.str _) .nil)) hpt))
    | ite sl u y n' =>
      obtain ⟨ar, vy, vn, rfl, hSr0, hyD, hnD⟩ := ite_at hDr
      have hSr := SqT.same hO1.same hSr0
      have ecn : Td.cnt (Td.Row.ite sl u y n') = 1 + cnts y + cnts n' := by unfold Td.cnt; rfl
      unfold okR at okr
      refine ⟨_, rfl, ar, _, 0, _, rfl, rfl, hSr, rfl, rfl, _, rfl, if_false_of (by decide +kernel) ⟨_, rfl, ar, _, 0, _, rfl, rfl, hSr, rfl, rfl, _, rfl, if_false_of (by decide +kernel) ?_⟩⟩
      refine ⟨_, rfl, ar, _, 0, _, rfl, rfl, hSr, rfl, rfl, _, rfl, if_false_of (by decide +kernel) ?_⟩
      refine ⟨_, rfl, ar, _, 0, _, rfl, rfl, hSr, rfl, rfl, _, rfl, if_false_of (by decide +kernel) ?_⟩
      refine ⟨_, rfl, ar, _, 0, _, rfl, rfl, hSr, rfl, rfl, _, rfl, if_false_of (by decide +kernel) ?_⟩
      refine ⟨_, rfl, A.ps, rfl, .inl ⟨_, .inl hO1.sl⟩, _, rfl, ar, _, 1, _, rfl, rfl, hSr, rfl, _, rfl, _, DGet.k (k := .inr sl) hO1.sl, ?_⟩
      dsimp only
      rw [slot_get]
      refine ⟨_, rfl, ar, _, 2, _, rfl, rfl, hSr, rfl, rfl, _, rfl, ?_⟩
      by_cases hw : st1.word (d0 p) sl = u
      · refine if_true_of (by rw [hw]; exact decide_eq_true rfl) ?_
        refine ⟨_, rfl, ar, _, 3, _, rfl, rfl, hSr, rfl, ?_⟩
        refine ⟨_, rfl, _, rfl, _, rfl, _, rfl, _, rfl, .ref pa, vy, td, A, p, pm, H0, st1, kn, y, _, S, dep + 1, rfl, hPd, pok, hO1, hK, hyD, okr.2.2.2.1, heff, hrd, few1, by omega, by omega, by omega, fun H2 hO2 => ⟨_, _, rfl, ?_⟩⟩
        have eR : runR (knF kn) (d0 p) (.ite sl u y n') st1 = runRs (knF kn) (d0 p) y st1 := by simp only [runR, if_pos hw]
        rw [nxt, eR]
        exact hO2
      · refine if_false_of (decide_eq_false (fun h => hw (by injection h))) ?_
        refine ⟨_, rfl, ar, _, 4, _, rfl, rfl, hSr, rfl, ?_⟩
        refine ⟨_, rfl, _, rfl, _, rfl, _, rfl, _, rfl, .ref pa, vn, td, A, p, pm, H0, st1, kn, n', _, S, dep + 1, rfl, hPd, pok, hO1, hK, hnD, okr.2.2.2.2, heff, hrd, few1, by omega, by omega, by omega, fun H2 hO2 => ⟨_, _, rfl, ?_⟩⟩
        have eR : runR (knF kn) (d0 p) (.ite sl u y n') st1 = runRs (knF kn) (d0 p) n' st1 := by simp only [runR, if_neg hw]
        rw [nxt, eR]
        exact hO2
  · rintro σ H1 ⟨v6, v7, rfl, hO1⟩
    rw [hl, List.take_length] at hO1
    exact q _ hO1
theorem ok_effect (T : Tops w K mg) : ∀ k, FnOk P w K mg base CX0 k T.a__law_effect T.d__law_effect ["_law_parts_here", "_law_rows_here", "_law_table", "_law_slots", "_law_told"] (spEffect K k)
  | 0 => by
    have no : ∀ vs H Q E, ¬ spEffect K 0 vs H Q E := fun vs H Q E h => by
      obtain ⟨_, _, _, _, _, _, _, _, _, _, _, _, dep, _, _, _, _, _, _, _, _, _, _, _, h1, h2, _⟩ := h
      omega
    exact ⟨fun vs H Q E h => absurd h (no vs H Q E), fun A outer s H args us vs Q E _ _ _ _ h => absurd h (no vs H Q E)⟩
  | k + 1 => ok_effect1 T (ok_effect T k)
end
end K68
namespace K68
open PySem PySem.Spec PyProof.Rows L2 Td
/-- the law's plain machine: the same one, and whether it was too long -/
def lawRun (p : PP) (most i : Nat) (q : Str × List Td.Row) (s : PM × Bool) : PM × Bool := if s.1.rn = most ∨ s.2 = true then (s.1, true) else (runOne p i q s.1, false)
def lawLook (p : PP) (most : Nat) : Nat → List (Str × List Td.Row) → PM × Bool → PM × Bool
  | _, [], s => s
  | i, q :: r, s => lawLook p most (i + 1) r (if stirred p s.1.ws ((s.1.nt[i]?).getD none) = true then lawRun p most i q s else s)
def lawAll (p : PP) (most : Nat) : Nat → List (Str × List Td.Row) → PM × Bool → PM × Bool
  | _, [], s => s
  | i, q :: r, s => lawAll p most (i + 1) r (lawRun p most i q s)
def lawWrite (p : PP) (most : Nat) (wr : Td.Env) (s : PM × Bool) : PM × Bool :=
  if counting p s.1.ws wr = [] then s else lawLook p most 0 p.effects ({ s.1 with ws := (counting p s.1.ws wr).foldl (setW p) s.1.ws }, s.2)
def lawRest (p : PP) (most : Nat) : Nat → PM × Bool → PM × Bool
  | 0, s => s
  | n + 1, s => match s.1.wt with
    | [] => lawRest p most n s
    | c :: r => lawRest p most n (lawWrite p most [c] ({ s.1 with wt := r }, s.2))
def mK (wl nl ll ql : Addr) (left : Nat) (b : Bool) : List (Key × V) := [(.inr "words", .ref wl), (.inr "notes", .ref nl), (.inr "log", .ref ll), (.inr "waiting", .ref ql), (.inr "left", .int (left : Nat)), (.inr "long", .bl b)]
theorem mK_get (wl nl ll ql : Addr) (left : Nat) (b : Bool) : valV (mK wl nl ll ql left b) (.inr "words" : Key) = some (.ref wl) ∧ valV (mK wl nl ll ql left b) (.inr "notes" : Key) = some (.ref nl) ∧ valV (mK wl nl ll ql left b) (.inr "log" : Key) = some (.ref ll) ∧
    valV (mK wl nl ll ql left b) (.inr "waiting" : Key) = some (.ref ql) ∧ valV (mK wl nl ll ql left b) (.inr "left" : Key) = some (.int (left : Nat)) ∧ valV (mK wl nl ll ql left b) (.inr "long" : Key) = some (.bl b) :=
  ⟨by kernel_rfl, by kernel_rfl, by kernel_rfl, by kernel_rfl, by kernel_rfl, by kernel_rfl⟩
theorem mK_long (wl nl ll ql : Addr) (left : Nat) (b c : Bool) : putK (mK wl nl ll ql left b) (.inr "long" : Key) (.bl c) = mK wl nl ll ql left c := by kernel_rfl
theorem mK_left (wl nl ll ql : Addr) (left k : Nat) (b : Bool) : putK (mK wl nl ll ql left b) (.inr "left" : Key) (.int (k : Nat)) = mK wl nl ll ql k b := by kernel_rfl
theorem mK_log (wl nl ll ql l2 : Addr) (left : Nat) (b : Bool) : putK (mK wl nl ll ql left b) (.inr "log" : Key) (.ref l2) = mK wl nl l2 ql left b := by kernel_rfl
theorem mK_wait (wl nl ll ql l2 : Addr) (left : Nat) (b : Bool) : putK (mK wl nl ll ql left b) (.inr "waiting" : Key) (.ref l2) = mK wl nl ll l2 left b := by kernel_rfl
/-- where it lies -/
structure LmAt (K : PySem.W.Frag) (H : Hp) (md wl nl : Addr) (most : Nat) (M : PM) (b : Bool) : Prop where
  ex : ∃ ll ql lx qx nx, H md = some (.dK (mK wl nl ll ql (most - M.rn) b)) ∧ H wl = some (.lst (M.ws.map V.str)) ∧ H nl = some (.lst nx) ∧ TnAll K H nx (M.nt.map noteD) ∧ H ll = some (.lst lx) ∧ TnAll K H lx (M.lg.map wrD) ∧ H ql = some (.lst qx) ∧ TnAll K H qx (M.wt.map wrD) ∧
    wl ≠ nl ∧ wl ≠ ll ∧ wl ≠ ql ∧ nl ≠ ll ∧ nl ≠ ql
theorem LmAt.same {K : PySem.W.Frag} {H H' : Hp} {md wl nl : Addr} {most : Nat} {M : PM} {b : Bool} (h : LmAt K H md wl nl most M b) (s : Same H H') : LmAt K H' md wl nl most M b := by
  obtain ⟨ll, ql, lx, qx, nx, a1, a2, a3, a4, a5, a6, a7, a8, d⟩ := h.ex
  have tk := TK.of_same s
  exact ⟨ll, ql, lx, qx, nx, s _ _ a1, s _ _ a2, s _ _ a3, TnAll.keep tk a4, s _ _ a5, TnAll.keep tk a6, s _ _ a7, TnAll.keep tk a8, d⟩
abbrev partsX (K : PySem.W.Frag) (H : Hp) (v : V) (p : PP) : Prop := DataX K H v p.words p.sources (pairsD p.derived) (pairsD p.effects)
theorem same_del {H0 H : Hp} {a : Addr} (s : Same H0 H) (h : H0 a = none) : Same H0 (L2.del H a) := fun b o e => by
  rw [del_ne (ne_of_none e h)]; exact s _ _ e
theorem del_same' {H : Hp} {a : Addr} : Same (L2.del H a) H := fun b o e => by
  by_cases h : b = a
  · rw [h, del_same] at e; cases e
  · rw [del_ne h] at e; exact e
theorem del_none {H : Hp} {a b : Addr} (h : H b = none) : L2.del H a b = none := by
  by_cases e : b = a
  · rw [e, del_same]
  · rw [del_ne e]; exact h
theorem dget_at {H : Hp} {a : Addr} {kvs : List (Key × V)} {k : Str} {v : V} (e : H a = some (.dK kvs)) (g : valV kvs (.inr k : Key) = some v) : DGet H a (.str k) (some v) := by
  have h := DGet.k (k := .inr k) e
  rw [g] at h
  exact h
structure LNew (H0 : Hp) (md wl nl : Addr) : Prop where
  md : H0 md = none
  wl : H0 wl = none
  nl : H0 nl = none
theorem LmAt.setWords {K : PySem.W.Frag} {H : Hp} {md wl nl : Addr} {most : Nat} {M : PM} {b : Bool} (h : LmAt K H md wl nl most M b) (ws : List Str) : LmAt K (upd H wl (.lst (ws.map V.str))) md wl nl most { M with ws := ws } b := by
  obtain ⟨ll, ql, lx, qx, nx, m1, m2, m3, m4, m5, m6, m7, m8, d1, d2, d3, d4, d5⟩ := h.ex
  have tk : TK H (upd H wl (.lst (ws.map V.str))) := TK.upd (by rw [m2]; trivial)
  exact ⟨ll, ql, lx, qx, nx, by rw [upd_ne (ne_of m1 m2 (by intro z; cases z))]; exact m1, upd_same, by rw [upd_ne (Ne.symm d1)]; exact m3, TnAll.keep tk m4, by rw [upd_ne (Ne.symm d2)]; exact m5, TnAll.keep tk m6, by rw [upd_ne (Ne.symm d3)]; exact m7, TnAll.keep tk m8, d1, d2, d3, d4, d5⟩
theorem first_at : ∀ {ss : List Str} {c : Str}, c ∈ ss → ∃ j : Nat, ss[j]? = some c ∧ ∀ m : Nat, m < j → ss[m]? ≠ some c
  | [], _, h => nomatch h
  | a :: r, c, h => by
    by_cases e : a = c
    · exact ⟨0, by rw [e]; rfl, fun m hm => absurd hm (Nat.not_lt_zero _)⟩
    · have h' : c ∈ r := by
        rcases List.mem_cons.mp h with x | x
        · exact absurd x.symm e
        · exact x
      obtain ⟨j, h1, h2⟩ := first_at h'
      refine ⟨j + 1, h1, fun m hm => ?_⟩
      cases m with
      | zero => exact fun z => e (Option.some.inj z)
      | succ m => exact h2 m (by omega)
theorem setW_at {p : PP} {ws : List Str} {c : Str × Str} {j : Nat} (nd : p.sources.Nodup) (hl : ws.length = p.sources.length) (hj : p.sources[j]? = some c.1) : setW p ws c = ws.set j c.2 := by
  unfold setW
  refine List.ext_getElem? fun i => ?_
  rw [List.getElem?_map]
  by_cases hi : i < ws.length
  · have h1 : p.sources[i]? = some p.sources[i] := List.getElem?_eq_getElem (by omega)
    have h2 : ws[i]? = some ws[i] := List.getElem?_eq_getElem hi
    rw [show (p.sources.zip ws)[i]? = some (p.sources[i], ws[i]) from List.getElem?_zip_eq_some.mpr ⟨h1, h2⟩, List.getElem?_set]
    by_cases e : j = i
    · subst e
      rw [hj] at h1
      have e1 := Option.some.inj h1
      rw [if_pos rfl, if_pos hi, ← e1]
      show some (if c.1 = c.1 then c.2 else _) = _
      rw [if_pos rfl]
    · rw [if_neg e, h2]
      show some (if p.sources[i] = c.1 then c.2 else ws[i]) = _
      rw [if_neg]
      intro x
      rw [x] at h1
      exact e ((List.getElem?_inj (by have := (List.getElem?_eq_some_iff.mp hj).1; exact this) nd).mp (hj.trans h1.symm))
  · rw [List.getElem?_eq_none (by rw [List.length_zip]; omega), List.getElem?_eq_none (by rw [List.length_set]; omega)]
    rfl
theorem any_filter {α : Type} (f : α → Bool) (l : List α) : decide ((0 : Int) < ((l.filter f).length : Nat)) = l.any f := by
  induction l with
  | nil => rfl
  | cons a r ih =>
    rw [List.any_cons, List.filter_cons]
    cases h : f a with
    | true => rw [if_pos rfl, Bool.true_or]; exact decide_eq_true (by rw [List.length_cons]; omega)
    | false => rw [if_neg (by decide), Bool.false_or]; exact ih
theorem lawRun_keeps {p : PP} {m most i : Nat} {q : Str × List Td.Row} {s : PM × Bool} (ok : p.Ok m) (hm : m ≤ 16) (hq : q ∈ p.effects) (g : s.1.Good p) (hr : s.1.rn ≤ most) (hn : ∀ o ∈ s.1.nt, o ≠ none) :
    (lawRun p most i q s).1.Good p ∧ (lawRun p most i q s).1.rn ≤ most ∧ (lawRun p most i q s).1.pot most ≤ s.1.pot most ∧ (lawRun p most i q s).1.lro most ≤ s.1.lro most ∧ (lawRun p most i q s).1.ws = s.1.ws ∧ ∀ o ∈ (lawRun p most i q s).1.nt, o ≠ none := by
  unfold lawRun
  split
  · exact ⟨g, hr, Nat.le_refl _, Nat.le_refl _, rfl, hn⟩
  · rename_i h
    have hne : s.1.rn ≠ most := fun e => h (.inl e)
    have f := eff_few ok hm hq s.1.ws
    have f1 := f.wr
    have f2 := f.sa
    refine ⟨good_run ok hm g hq, ?_, ?_, ?_, rfl, fun o ho => ?_⟩
    · show s.1.rn + 1 ≤ most
      omega
    · show (s.1.wt ++ (effRun p s.1.ws q).written).length + 16 * (most - (s.1.rn + 1)) ≤ s.1.wt.length + 16 * (most - s.1.rn)
      rw [List.length_append]
      omega
    · show (s.1.lg ++ (effRun p s.1.ws q).said.map fun z => (q.1, z)).length + 16 * (most - (s.1.rn + 1)) ≤ s.1.lg.length + 16 * (most - s.1.rn)
      rw [List.length_append, List.length_map]
      omega
    · rcases List.mem_or_eq_of_mem_set ho with x | x
      · exact hn o x
      · rw [x]; exact fun z => nomatch z
theorem lawLook_drop {p : PP} {most i : Nat} {qs : List (Str × List Td.Row)} {q : Str × List Td.Row} {s : PM × Bool} (h : qs[i]? = some q) : lawLook p most i (qs.drop i) s = lawLook p most (i + 1) (qs.drop (i + 1)) (if stirred p s.1.ws ((s.1.nt[i]?).getD none) = true then lawRun p most i q s else s) := by
  obtain ⟨hi, e⟩ := List.getElem?_eq_some_iff.mp h
  rw [List.drop_eq_getElem_cons hi, e]
  rfl
def spLRun (K : PySem.W.Frag) : Sp := fun vs H Q _ => ∃ (pv : V) (md wl nl : Addr) (i : Nat) (qq : Str × List Td.Row) (p : PP) (m most : Nat) (M : PM) (b : Bool) (H0 : Hp), vs = [pv, .ref md, .int (i : Nat)] ∧ partsX K H0 pv p ∧ p.Ok m ∧ m ≤ 16 ∧ Same H0 H ∧ LNew H0 md wl nl ∧ LmAt K H md wl nl most M b ∧ p.effects[i]? = some qq ∧
  M.Good p ∧ M.rn ≤ most ∧ M.pot most ≤ 300 ∧ M.lro most ≤ 300 ∧ ∀ H', Same H0 H' → LmAt K H' md wl nl most (lawRun p most i qq (M, b)).1 (lawRun p most i qq (M, b)).2 → Q .non H'
def spLWrite (K : PySem.W.Frag) : Sp := fun vs H Q _ => ∃ (pv : V) (md wl nl wa : Addr) (wx : List V) (wr : Td.Env) (p : PP) (m most : Nat) (M : PM) (b : Bool) (H0 : Hp), vs = [pv, .ref md, .ref wa] ∧ partsX K H0 pv p ∧ p.Ok m ∧ m ≤ 16 ∧ Same H0 H ∧ LNew H0 md wl nl ∧ LmAt K H md wl nl most M b ∧
  H wa = some (.lst wx) ∧ wa ≠ wl ∧ wa ≠ nl ∧ TnAll K H wx (wr.map wrD) ∧ wr.length ≤ 16 ∧ (∀ c ∈ wr, c.1 ∈ p.sources ∧ c.2 ∈ p.words) ∧
  M.Good p ∧ M.rn ≤ most ∧ M.pot most ≤ 300 ∧ M.lro most ≤ 300 ∧ (∀ o ∈ M.nt, o ≠ none) ∧ ∀ H', Same H0 H' → LmAt K H' md wl nl most (lawWrite p most wr (M, b)).1 (lawWrite p most wr (M, b)).2 → Q .non H'
section
variable {P : Program} {w : World} {K : PySem.W.Frag} {mg : Str → Option Value} {base : Heap}
theorem ok_lrun (T : Tops w K mg) (G__law_effect : FnOk P w K mg base CX0 4 T.a__law_effect T.d__law_effect ["_law_parts_here", "_law_rows_here", "_law_table", "_law_slots", "_law_told"] (spEffect K 4))
    (G__law_true : FnOk P w K mg base CX0 5 T.a__law_true T.d__law_true ["_law_parts_here", "_law_words_here"] (spLawTrue K)) :
    FnOk P w K mg base CX0 6 T.a__law_plain_run T.d__law_plain_run ["_law_parts_here", "_law_m", "_law_at"] (spLRun K) := by
  refine T.F__law_plain_run.ok sc_law_plain_run (fun vs H Q E h => ?_) (fun cdv AR outer s H vs Q E hr h => ?_)
  · obtain ⟨pd, md, wl, nl, i, qq, p, m, most, M, b, H0, rfl, _⟩ := h
    rfl
  obtain ⟨pd, md, wl, nl, i, qq, p, m, most, M, b, H0, rfl, hD, ok, hm, hs, hn, hA, hq, hg, hrn, hpot, hlro, q⟩ := h
  refine ⟨_, (pss_cons (ps_if (PW.pt (pw_or (pt_cmpR op_eq (pe_dget (hu_of hr) (pv 1) pe_str (fun _ _ => rfl)) pe_int (nomark _)) (pw_or1 (pt_val (pe_dget (hu_of hr) (pv 1) pe_str (fun _ _ => rfl)))))) (pss_cons (ps_dput (hu_of hr) (pv 1) pe_str pe_bl rfl)
    (pss_one ps_retN)) pss_nil)
    (pss_cons (ps_dput (hu_of hr) (pv 1) pe_str (pe_op op_sub (pe_dget (hu_of hr) (pv 1) pe_str (fun _ _ => rfl)) pe_int) rfl)
    (pss_cons (ps_set (i := 3) sc_law_plain_run.nd rfl (Or.inl rfl) (pe_disp (pps_cons pe_str (pe_lst pa_nil) (pps_cons pe_str (pe_lst pa_nil) (pps_cons pe_str (pe_lst pa_nil) pps_nil))) (by rfl) (by rfl) (fun z => by cases z) (by decide)))
    (pss_cons (ps_expr (pe_call G__law_effect (hr.mono (by omega)) rfl T.m__law_effect T.F__law_effect.kp T.b__law_effect .nil pass0 (pa_cons (pv 0) (pa_cons (pe_ix ix_tup (pe_ix ix_tup (pe_ix ix_tup (pv 0) pe_int (fun _ _ => rfl)) (pv 2) (fun _ _ => rfl)) pe_int (fun _ _ => rfl)) (pa_cons (pe_call G__law_true (hr.mono (by omega)) rfl T.m__law_true T.F__law_true.kp T.b__law_true .nil pass0 (pa_cons (pv 0) (pa_cons (pe_dget (hu_of hr) (pv 1) pe_str (fun _ _ => rfl)) pa_nil))) (pa_cons pe_dnewK (pa_cons (pv 3) pa_nil)))))))
    (pss_cons (ps_set (i := 4) sc_law_plain_run.nd rfl (Or.inl rfl) (pe_dget (hu_of hr) (pv 1) pe_str (fun _ _ => rfl)))
    (pss_cons (ps_asg (pe_callTy (T := "tuple") call_tuple_of rfl T.z_tuple (by decide +kernel) (pa_cons (pe_dget (hu_of hr) (pv 3) pe_str (fun _ _ => rfl)) pa_nil)) (pg_sub (pv 4) (pv 2) set_list))
    (pss_cons (ps_dput (hu_of hr) (pv 1) pe_str (pe_op op_cat (pe_dget (hu_of hr) (pv 1) pe_str (fun _ _ => rfl)) (pe_lc (own := [(("_law_word" : Str), 5)]) (wi := (iList K (tDGet (tVar 3) (tC (.str "says"))))) (g := gName 5) (tt := tYes) (te := (tTup (tCons (tOp (rIxT K) (tOp (rIxT K) (tOp (rIxT K) (tVar 0) (tC (.int 3))) (tVar 2)) (tC (.int 0))) (tCons (tVar 5) tNil)))) rfl sc_law_plain_run.nd (pi_list (pe_dget (hu_of hr) (pv 3) pe_str (fun _ _ => rfl))) (blkOk_by (own := [(("_law_word" : Str), 5)]) (N := N_law_plain_run) (sc := defScope s_law_plain_run) (by decide +kernel)) (fun _ _ _ _ _ => (pg_name (i := 5) sc_law_plain_run.nd rfl (Or.inl rfl))) (fun _ _ _ _ _ => pts_nil) (fun _ _ _ _ _ => (pe_tup (pa_cons (pe_ix (r := (rIxT K)) ix_tup (pe_ix (r := (rIxT K)) ix_tup (pe_ix (r := (rIxT K)) ix_tup (pv 0) pe_int (fun _ _ => rfl)) (pv 2) (fun _ _ => rfl)) pe_int (fun _ _ => rfl)) (pa_cons (pv 5) pa_nil)))))) rfl)
    (pss_one (ps_dput (hu_of hr) (pv 1) pe_str (pe_op op_cat (pe_dget (hu_of hr) (pv 1) pe_str (fun _ _ => rfl)) (pe_dget (hu_of hr) (pv 3) pe_str (fun _ _ => rfl))) rfl))))))))), ?_⟩
  obtain ⟨ll, ql, lx, qx, nx, m1, m2, m3, m4, m5, m6, m7, m8, d1, d2, d3, d4, d5⟩ := hA.ex
  obtain ⟨g1, g2, g3, g4, g5, g6⟩ := mK_get wl nl ll ql (most - M.rn) b
  refine ⟨_, rfl, md, _, rfl, dget_at m1 g5, rfl, _, rfl, ?_⟩
  by_cases hz : M.rn = most
  · refine if_true_of (decide_eq_true (by rw [hz, Nat.sub_self]; rfl)) (if_true_of rfl ?_)
    refine ⟨_, rfl, md, _, rfl, DPut.k (k := .inr "long") m1 (small1000 (by show 6 ≤ 1000; decide)), ?_⟩
    rw [mK_long]
    have el : lawRun p most i qq (M, b) = (M, true) := if_pos (.inl hz)
    rw [el] at q
    have tk : TK H (upd H md (.dK (mK wl nl ll ql (most - M.rn) true))) := TK.upd (by rw [m1]; trivial)
    exact q _ (own_same hs hn.md) ⟨ll, ql, lx, qx, nx, upd_same, by rw [upd_ne (ne_of m2 m1 (by intro z; cases z))]; exact m2, by rw [upd_ne (ne_of m3 m1 (by intro z; cases z))]; exact m3, TnAll.keep tk m4, by rw [upd_ne (ne_of m5 m1 (by intro z; cases z))]; exact m5, TnAll.keep tk m6, by rw [upd_ne (ne_of m7 m1 (by intro z; cases z))]; exact m7, TnAll.keep tk m8, d1, d2, d3, d4, d5⟩
  refine if_false_of (decide_eq_false fun e => hz (by injection e with e; omega)) ?_
  refine ⟨_, rfl, md, _, rfl, dget_at m1 g6, _, rfl, ?_⟩
  cases b with
  | true =>
    refine if_true_of rfl ?_
    refine ⟨_, rfl, md, _, rfl, DPut.k (k := .inr "long") m1 (small1000 (by show 6 ≤ 1000; decide)), ?_⟩
    rw [mK_long]
    have el : lawRun p most i qq (M, true) = (M, true) := if_pos (.inr rfl)
    rw [el] at q
    have eu : upd H md (.dK (mK wl nl ll ql (most - M.rn) true)) = H := upd_self m1
    rw [eu]
    exact q _ hs hA
  | false =>
  refine if_false_of rfl ?_
  have el : lawRun p most i qq (M, false) = (runOne p i qq M, false) := if_neg (by rintro (h | h); exact hz h; cases h)
  rw [el] at q
  have rnl : M.rn < most := Nat.lt_of_le_of_ne hrn hz
  have e1 : ((most - M.rn : Nat) : Int) - 1 = ((most - (M.rn + 1) : Nat) : Int) := by omega
  refine ⟨_, rfl, md, _, rfl, dget_at m1 g5, _, _, rfl, rfl, _, rfl, md, _, rfl, DPut.k (k := .inr "left") m1 (small1000 (by show 6 ≤ 1000; decide)), ?_⟩
  dsimp only
  rw [e1, mK_left]
  have s1 := own_same (o := .dK (mK wl nl ll ql (most - (M.rn + 1)) false)) hs hn.md
  have tk1 : TK H (upd H md (.dK (mK wl nl ll ql (most - (M.rn + 1)) false))) := TK.upd (by rw [m1]; trivial)
  have a1 : upd H md (.dK (mK wl nl ll ql (most - (M.rn + 1)) false)) md = some (.dK (mK wl nl ll ql (most - (M.rn + 1)) false)) := upd_same
  have a2 : upd H md (.dK (mK wl nl ll ql (most - (M.rn + 1)) false)) wl = some (.lst (M.ws.map V.str)) := by rw [upd_ne (ne_of m2 m1 (by intro z; cases z))]; exact m2
  have a3 : upd H md (.dK (mK wl nl ll ql (most - (M.rn + 1)) false)) nl = some (.lst nx) := by rw [upd_ne (ne_of m3 m1 (by intro z; cases z))]; exact m3
  have a5 : upd H md (.dK (mK wl nl ll ql (most - (M.rn + 1)) false)) ll = some (.lst lx) := by rw [upd_ne (ne_of m5 m1 (by intro z; cases z))]; exact m5
  have a7 : upd H md (.dK (mK wl nl ll ql (most - (M.rn + 1)) false)) ql = some (.lst qx) := by rw [upd_ne (ne_of m7 m1 (by intro z; cases z))]; exact m7
  have a4 := TnAll.keep tk1 m4
  have a6 := TnAll.keep tk1 m6
  have a8 := TnAll.keep tk1 m8
  generalize upd H md (.dK (mK wl nl ll ql (most - (M.rn + 1)) false)) = H1 at s1 a1 a2 a3 a4 a5 a6 a7 a8
  clear m1 m2 m3 m4 m5 m6 m7 m8 tk1
  refine fun rc hrc => ?_
  have r0 := Same.new hrc (.dK [])
  have r1 : upd H1 rc (.dK []) rc = some (.dK []) := upd_same
  dsimp only
  generalize upd H1 rc (.dK []) = H2 at r0 r1
  refine ⟨by show 0 ≤ sizeLine; decide, fun l1 hl1 => ⟨by show 0 ≤ sizeLine; decide, fun l2 hl2 => ⟨by show 0 ≤ sizeLine; decide, fun l3 hl3 => ?_⟩⟩⟩
  have q1 : Same H2 (upd H2 l1 (.lst [])) := Same.new hl1 _
  have q2 := q1.trans (Same.new hl2 (.lst []))
  have q3 := q2.trans (Same.new hl3 (.lst []))
  have y1 : upd (upd (upd H2 l1 (.lst [])) l2 (.lst [])) l3 (.lst []) l1 = some (.lst []) := Same.new hl3 _ _ _ (Same.new hl2 _ _ _ upd_same)
  have y2 : upd (upd (upd H2 l1 (.lst [])) l2 (.lst [])) l3 (.lst []) l2 = some (.lst []) := Same.new hl3 _ _ _ upd_same
  have y3 : upd (upd (upd H2 l1 (.lst [])) l2 (.lst [])) l3 (.lst []) l3 = some (.lst []) := upd_same
  have n12 : l1 ≠ l2 := ne_of_none upd_same hl2
  have n13 : l1 ≠ l3 := ne_of_none (Same.new hl2 (.lst []) _ _ upd_same) hl3
  have n23 : l2 ≠ l3 := ne_of_none upd_same hl3
  have f1 : H1 l1 = none := free_of r0 hl1
  have f2 : H1 l2 = none := free_of (r0.trans q1) hl2
  have f3 : H1 l3 = none := free_of (r0.trans q2) hl3
  refine ⟨q3 _ _ r1, toldK l1 l2 l3, rfl, by show 3 ≤ 15; decide, ?_⟩
  rw [toldK_merge]
  have s2 : Same H1 (upd (upd (upd (upd H2 l1 (.lst [])) l2 (.lst [])) l3 (.lst [])) rc (.dK (toldK l1 l2 l3))) := own_same (r0.trans q3) hrc
  have z0 : upd (upd (upd (upd H2 l1 (.lst [])) l2 (.lst [])) l3 (.lst [])) rc (.dK (toldK l1 l2 l3)) rc = some (.dK (toldK l1 l2 l3)) := upd_same
  have z1 : upd (upd (upd (upd H2 l1 (.lst [])) l2 (.lst [])) l3 (.lst [])) rc (.dK (toldK l1 l2 l3)) l1 = some (.lst []) := by rw [upd_ne (ne_of y1 (q3 _ _ r1) (by intro z; cases z))]; exact y1
  have z2 : upd (upd (upd (upd H2 l1 (.lst [])) l2 (.lst [])) l3 (.lst [])) rc (.dK (toldK l1 l2 l3)) l2 = some (.lst []) := by rw [upd_ne (ne_of y2 (q3 _ _ r1) (by intro z; cases z))]; exact y2
  have z3 : upd (upd (upd (upd H2 l1 (.lst [])) l2 (.lst [])) l3 (.lst [])) rc (.dK (toldK l1 l2 l3)) l3 = some (.lst []) := by rw [upd_ne (ne_of y3 (q3 _ _ r1) (by intro z; cases z))]; exact y3
  generalize upd (upd (upd (upd H2 l1 (.lst [])) l2 (.lst [])) l3 (.lst [])) rc (.dK (toldK l1 l2 l3)) = H3 at s2 z0 z1 z2 z3
  clear q1 q2 q3 y1 y2 y3
  have s03 := s1.trans s2
  obtain ⟨pa, aw, as, vd, ve, rfl, hP, h1, h2, h3, h4⟩ := hD
  obtain ⟨ae, ys, rfl, hE, hel, hex⟩ := pairs_at h4
  have il : i < ys.length := by rw [hel]; exact (List.getElem?_eq_some_iff.mp hq).1
  obtain ⟨q2, bb, vr, hq2, eyi, hB, hR⟩ := hex i _ (List.getElem?_eq_getElem il)
  have hyi : ys[i]? = some (.ref bb) := by rw [List.getElem?_eq_getElem il, eyi]
  rw [hq] at hq2
  cases hq2
  have hDD : partsX K H0 (.ref pa) p := ⟨pa, aw, as, vd, _, rfl, hP, h1, h2, h3, h4⟩
  refine ⟨_, rfl, _, rfl, pa, _, 3, _, rfl, rfl, SqT.same s03 hP, rfl, _, rfl, ae, ys, (i : Nat), .ref bb, rfl, rfl, SqT.same s03 hE, atI_nat hyi, bb, _, 1, _, rfl, rfl, SqT.same s03 hB, rfl, ?_⟩
  refine ⟨_, rfl, _, rfl, md, _, rfl, dget_at (s2 _ _ a1) (mK_get ..).1, .ref pa, wl, p, m, M.ws, rfl, Tn.same s03 (Td.DataX.tn hDD), ok, hm, .inl (SqL.of (s2 _ _ a2)), hg.wl, fun td H4 s4 htd hkn => ?_⟩
  refine fun ps hps => ?_
  have s5 := Same.new hps (.dK [])
  have p5 : upd H4 ps (.dK []) ps = some (.dK (kv [])) := upd_same
  have hps4 := hps
  have s45 := s4.trans s5
  have z0' := s45 _ _ z0
  have z1' := s45 _ _ z1
  have z2' := s45 _ _ z2
  have z3' := s45 _ _ z3
  have hkn5 := s5 _ _ hkn
  have nps : rc ≠ ps := ne_of_none (s4 _ _ z0) hps
  have s15 : Same H1 (upd H4 ps (.dK [])) := s2.trans s45
  have fps : H1 ps = none := free_of (s2.trans s4) hps
  generalize upd H4 ps (.dK []) = H5 at s5 p5 s45 z0' z1' z2' z3' hkn5 s15
  -- the heap without what the run owns
  have sB : Same H1 (L2.del (L2.del (L2.del (L2.del H5 l1) l2) l3) ps) := same_del (same_del (same_del (same_del s15 f1) f2) f3) fps
  have sB' : Same (L2.del (L2.del (L2.del (L2.del H5 l1) l2) l3) ps) H5 := ((del_same'.trans del_same').trans del_same').trans del_same'
  have b1 : L2.del (L2.del (L2.del (L2.del H5 l1) l2) l3) ps l1 = none := del_none (del_none (del_none del_same))
  have b2 : L2.del (L2.del (L2.del (L2.del H5 l1) l2) l3) ps l2 = none := del_none (del_none del_same)
  have b3 : L2.del (L2.del (L2.del (L2.del H5 l1) l2) l3) ps l3 = none := del_none del_same
  have b4 : L2.del (L2.del (L2.del (L2.del H5 l1) l2) l3) ps ps = none := del_same
  have btd : L2.del (L2.del (L2.del (L2.del H5 l1) l2) l3) ps td = some (.dK (kv (known0 p M.ws))) := by
    rw [del_ne (ne_of_none hkn hps4), del_ne (ne_of hkn5 z3' (by intro z; cases z)), del_ne (ne_of hkn5 z2' (by intro z; cases z)), del_ne (ne_of hkn5 z1' (by intro z; cases z))]; exact hkn5
  generalize L2.del (L2.del (L2.del (L2.del H5 l1) l2) l3) ps = B at sB sB' b1 b2 b3 b4 btd
  have s0B := s1.trans sB
  obtain ⟨okr, hcn⟩ := okEff_get ok.eff hq
  refine ⟨_, rfl, .ref pa, vr, td, ⟨ps, rc, l1, l2, l3⟩, p, m, B, rs0 (d0 p), known0 p M.ws, qq.2, 0, _, 1, rfl, Tn.same s0B (Td.DataX.tn hDD), ok, ⟨sB', b4, b1, b2, b3, nps, n12, n13, n23, p5, z0', ⟨[], z1', .nil⟩, z2', ⟨[], z3', .nil⟩⟩, btd, Dp.same s0B hR.dp, okr, rfl, fun c hc => cells_has hg.wl hc, few0 _, by omega, by omega, by omega, fun H8 hE8 => ?_⟩
  have eR : (runRs (knF (known0 p M.ws)) (d0 p) qq.2 (rs0 (d0 p))).1 = effRun p M.ws qq := rfl
  rw [eR] at hE8
  obtain ⟨eS, _, _, _, _, _, _, _, _, e_sl, e_rc, ⟨xn, e_n1, e_n2⟩, e_sa, ⟨xw, e_w1, e_w2⟩⟩ := hE8
  have s18 : Same H1 H8 := sB.trans eS
  have hqm := List.mem_of_getElem? hq
  obtain ⟨i16, f16⟩ := eff_in (q := qq) ok hm hg.wl hg.ww hqm
  have fsa := f16.sa
  have fwr := f16.wr
  have nxl : nx.length = M.nt.length := n_len a4
  have lxl : lx.length = M.lg.length := n_len a6
  have qxl : qx.length = M.wt.length := n_len a8
  have xwl : xw.length = (effRun p M.ws qq).written.length := n_len e_w2
  have hro : M.lg.length + 16 * (most - M.rn) ≤ 300 := hlro
  have hpo : M.wt.length + 16 * (most - M.rn) ≤ 300 := hpot
  refine ⟨_, rfl, md, _, rfl, dget_at (s18 _ _ a1) (mK_get ..).2.1, ?_⟩
  refine ⟨_, rfl, rc, _, rfl, dget_at e_rc (toldK_get ..).1, l1, _, rfl, .inl ⟨SqL.of e_n1, fun vn hvn => ?_⟩⟩
  have t9 := Same.new hvn (.tup xn)
  have tvn : Tn K (upd H8 vn (.tup xn)) (.ref vn) (envD (effRun p M.ws qq).noted) := Tn.new e_n2 hvn
  have s19 := s18.trans t9
  have r9 := t9 _ _ e_rc
  have u9 := t9 _ _ e_sa
  have w9 := t9 _ _ e_w1
  have tw9 := TnAll.keep (TK.of_same t9) e_w2
  generalize upd H8 vn (.tup xn) = H9 at tvn s19 r9 u9 w9 tw9
  have b3' := s19 _ _ a3
  refine ⟨_, rfl, _, rfl, nl, nx, _, i, rfl, rfl, b3', ixN_nat (by rw [nxl, hg.nl]; rw [← hel]; exact il), ?_⟩
  have s010 := own_same (o := .lst (nx.set i (.ref vn))) (s1.trans s19) hn.nl
  have tk10 : TK H9 (upd H9 nl (.lst (nx.set i (.ref vn)))) := TK.upd (by rw [b3']; trivial)
  have tk1 : TK H1 (upd H9 nl (.lst (nx.set i (.ref vn)))) := (TK.of_same s19).trans tk10
  have k1 : upd H9 nl (.lst (nx.set i (.ref vn))) md = some (.dK (mK wl nl ll ql (most - (M.rn + 1)) false)) := by rw [upd_ne (ne_of (s19 _ _ a1) b3' (by intro z; cases z))]; exact s19 _ _ a1
  have k2 : upd H9 nl (.lst (nx.set i (.ref vn))) wl = some (.lst (M.ws.map V.str)) := by rw [upd_ne d1]; exact s19 _ _ a2
  have k3 : upd H9 nl (.lst (nx.set i (.ref vn))) nl = some (.lst (nx.set i (.ref vn))) := upd_same
  have k5 : upd H9 nl (.lst (nx.set i (.ref vn))) ll = some (.lst lx) := by rw [upd_ne (Ne.symm d4)]; exact s19 _ _ a5
  have k7 : upd H9 nl (.lst (nx.set i (.ref vn))) ql = some (.lst qx) := by rw [upd_ne (Ne.symm d5)]; exact s19 _ _ a7
  have kr : upd H9 nl (.lst (nx.set i (.ref vn))) rc = some (.dK (toldK l1 l2 l3)) := by rw [upd_ne (ne_of r9 b3' (by intro z; cases z))]; exact r9
  have ku : upd H9 nl (.lst (nx.set i (.ref vn))) l2 = some (.lst ((effRun p M.ws qq).said.map V.str)) := by rw [upd_ne (Ne.symm (ne_of_none a3 f2))]; exact u9
  have kw : upd H9 nl (.lst (nx.set i (.ref vn))) l3 = some (.lst xw) := by rw [upd_ne (Ne.symm (ne_of_none a3 f3))]; exact w9
  have k4 : TnAll K (upd H9 nl (.lst (nx.set i (.ref vn)))) (nx.set i (.ref vn)) ((M.nt.set i (some (effRun p M.ws qq).noted)).map noteD) := by
    rw [List.map_set]
    exact tn_set (TnAll.keep tk1 a4) (Tn.keep tk10 tvn)
  have k6 := TnAll.keep tk1 a6
  have k8 := TnAll.keep tk1 a8
  have kx := TnAll.keep tk10 tw9
  dsimp only
  generalize upd H9 nl (.lst (nx.set i (.ref vn))) = H10 at s010 k1 k2 k3 k5 k7 kr ku kw k4 k6 k8 kx
  refine ⟨_, rfl, md, _, rfl, dget_at k1 (mK_get ..).2.2.1, _, rfl, rc, _, rfl, dget_at kr (toldK_get ..).2.1, l2, rfl, ⟨_, SqL.of ku⟩, fun D hD => buS_list (effRun p M.ws qq).said V.str (fun _ => true) (fun H v z => Tn K H v (wrD (qq.1, z))) (fun k h => Tn.keep k h) (SqL.of ku) rfl (by omega) hD ?_ ?_⟩
  · rintro j z H' hz s' Yes No yes no
    refine ⟨rfl, tYes_of ?_⟩
    have sx := s010.trans s'
    refine ⟨_, rfl, pa, _, 3, _, rfl, rfl, SqT.same sx hP, rfl, _, rfl, ae, ys, (i : Nat), .ref bb, rfl, rfl, SqT.same sx hE, atI_nat hyi, bb, _, 0, _, rfl, rfl, SqT.same sx hB, rfl, _, rfl, by show 2 ≤ sizeLine; decide, fun t1 ht1 => yes rfl _ _ (Same.new ht1 _) ?_⟩
    exact Tn.new (.cons (.str _) (.cons (.str _) .nil)) ht1
  rintro H11 zs s11 hz' hR11
  rw [Td.filter_all] at hR11
  have zx := hR11.tn
  have zl : zs.length = (effRun p M.ws qq).said.length := hR11.len
  refine ⟨ll, D, lx, zs, rfl, rfl, s11 _ _ k5, hz', Nat.le_of_lt (small1000 (by omega)), fun c2 hc2 => ?_⟩
  have t12 := Same.new hc2 (.lst (lx ++ zs))
  have s12 := s11.trans t12
  have n2 : upd H11 c2 (.lst (lx ++ zs)) c2 = some (.lst (lx ++ zs)) := upd_same
  have lx12 : TnAll K (upd H11 c2 (.lst (lx ++ zs))) (lx ++ zs) ((M.lg ++ (effRun p M.ws qq).said.map fun z => (qq.1, z)).map wrD) := by
    rw [List.map_append, List.map_map]
    exact TnAll.keep (TK.of_same t12) (TnAll.append (TnAll.keep (TK.of_same s11) k6) zx)
  have w2' : wl ≠ c2 := ne_of_none (s11 _ _ k2) hc2
  have w3' : nl ≠ c2 := ne_of_none (s11 _ _ k3) hc2
  generalize upd H11 c2 (.lst (lx ++ zs)) = H12 at t12 s12 n2 lx12
  have p1 := s12 _ _ k1
  refine ⟨_, rfl, md, _, rfl, DPut.k (k := .inr "log") p1 (small1000 (by show 6 ≤ 1000; decide)), ?_⟩
  rw [mK_log]
  have s013 := own_same (o := .dK (mK wl nl c2 ql (most - (M.rn + 1)) false)) (s010.trans s12) hn.md
  have tk13 : TK H12 (upd H12 md (.dK (mK wl nl c2 ql (most - (M.rn + 1)) false))) := TK.upd (by rw [p1]; trivial)
  have o1 : upd H12 md (.dK (mK wl nl c2 ql (most - (M.rn + 1)) false)) md = some (.dK (mK wl nl c2 ql (most - (M.rn + 1)) false)) := upd_same
  have mv : ∀ {a : Addr} {xs : List V}, H12 a = some (.lst xs) → upd H12 md (.dK (mK wl nl c2 ql (most - (M.rn + 1)) false)) a = some (.lst xs) := fun {a xs} e => by
    rw [upd_ne (ne_of e p1 (by intro z; cases z))]; exact e
  have o2 := mv (s12 _ _ k2)
  have o3 := mv (s12 _ _ k3)
  have o5 := mv n2
  have o7 := mv (s12 _ _ k7)
  have ow := mv (s12 _ _ kw)
  have ncm : rc ≠ md := Ne.symm (ne_of_none a1 hrc)
  have or' : upd H12 md (.dK (mK wl nl c2 ql (most - (M.rn + 1)) false)) rc = some (.dK (toldK l1 l2 l3)) := by rw [upd_ne ncm]; exact s12 _ _ kr
  have o4 := TnAll.keep ((TK.of_same s12).trans tk13) k4
  have o6 := TnAll.keep tk13 lx12
  have o8 := TnAll.keep ((TK.of_same s12).trans tk13) k8
  have ox := TnAll.keep ((TK.of_same s12).trans tk13) kx
  dsimp only
  generalize upd H12 md (.dK (mK wl nl c2 ql (most - (M.rn + 1)) false)) = H13 at s013 o1 o2 o3 o5 o7 ow or' o4 o6 o8 ox
  refine ⟨_, rfl, md, _, rfl, dget_at o1 (mK_get ..).2.2.2.1, _, rfl, rc, _, rfl, dget_at or' (toldK_get ..).2.2, ql, l3, qx, xw, rfl, rfl, o7, ow, Nat.le_of_lt (small1000 (by omega)), fun c3 hc3 => ?_⟩
  have t14 := Same.new hc3 (.lst (qx ++ xw))
  have x2 := ne_of_none o2 hc3
  have x3 := ne_of_none o3 hc3
  have p2 := t14 _ _ o1
  refine ⟨_, rfl, md, _, rfl, DPut.k (k := .inr "waiting") p2 (small1000 (by show 6 ≤ 1000; decide)), ?_⟩
  rw [mK_wait]
  have s015 := own_same (o := .dK (mK wl nl c2 c3 (most - (M.rn + 1)) false)) (s013.trans t14) hn.md
  have tk15 : TK (upd H13 c3 (.lst (qx ++ xw))) (upd (upd H13 c3 (.lst (qx ++ xw))) md (.dK (mK wl nl c2 c3 (most - (M.rn + 1)) false))) := TK.upd (by rw [p2]; trivial)
  have mv2 : ∀ {a : Addr} {xs : List V}, upd H13 c3 (.lst (qx ++ xw)) a = some (.lst xs) → upd (upd H13 c3 (.lst (qx ++ xw))) md (.dK (mK wl nl c2 c3 (most - (M.rn + 1)) false)) a = some (.lst xs) := fun {a xs} e => by
    rw [upd_ne (ne_of e p2 (by intro z; cases z))]; exact e
  have tkk := (TK.of_same t14).trans tk15
  refine q _ s015 ⟨c2, c3, _, _, _, upd_same, mv2 (t14 _ _ o2), mv2 (t14 _ _ o3), TnAll.keep tkk o4, mv2 (t14 _ _ o5), TnAll.keep tkk o6, mv2 upd_same, ?_, d1, w2', x2, w3', x3⟩
  show TnAll K _ (qx ++ xw) ((M.wt ++ (effRun p M.ws qq).written).map wrD)
  rw [List.map_append]
  exact TnAll.append (TnAll.keep tkk o8) (TnAll.keep tkk ox)
theorem ok_lwrite (T : Tops w K mg) (G__law_plain_run : FnOk P w K mg base CX0 6 T.a__law_plain_run T.d__law_plain_run ["_law_parts_here", "_law_m", "_law_at"] (spLRun K))
    (G__law_true : FnOk P w K mg base CX0 5 T.a__law_true T.d__law_true ["_law_parts_here", "_law_words_here"] (spLawTrue K)) :
    FnOk P w K mg base CX0 7 T.a__law_plain_write T.d__law_plain_write ["_law_parts_here", "_law_m", "_law_writes"] (spLWrite K) := by
  refine T.F__law_plain_write.ok sc_law_plain_write (fun vs H Q E h => ?_) (fun cdv AR outer s H vs Q E hr h => ?_)
  · obtain ⟨pd, md, wl, nl, wa, wx, wr, p, m, most, M, b, H0, rfl, _⟩ := h
    rfl
  obtain ⟨pd, md, wl, nl, wa, wx, wr, p, m, most, M, b, H0, rfl, hD, ok, hm, hs, hn, hA, hwa, hne1, hne2, hwx, hwl, hwi, hg, hrn, hpot, hlro, hnn, q⟩ := h
  refine ⟨_, (pss_cons (ps_set (i := 3) sc_law_plain_write.nd rfl (Or.inr rfl) (pe_dget (hu_of hr) (pv 1) pe_str (fun _ _ => rfl)))
    (pss_cons (ps_setLc (i := 4) (own := [(("_law_pair" : Str), 5)]) (wi := (iList K (tVar 2))) (g := gName 5) (tt := (tTest (tOp rNe (tOp (rIxL K) (tVar 3) (tTIdx K (tOp (rIxT K) (tVar 0) (tC (.int 1))) (tCons (tOp (rIxT K) (tVar 5) (tC (.int 0))) tNil))) (tOp (rIxT K) (tVar 5) (tC (.int 1)))))) (te := (tVar 5)) rfl sc_law_plain_write.nd rfl rfl (sw_true rfl rfl rfl (by decide +kernel)) (pi_list (pv 2)) (blkOk_by (own := [(("_law_pair" : Str), 5)]) (N := N_law_plain_write) (sc := defScope s_law_plain_write) (by decide +kernel)) (fun _ _ _ _ _ => (pg_name (i := 5) sc_law_plain_write.nd rfl (Or.inl rfl))) (fun _ _ _ _ _ => (pts_one (pt_cmpR op_ne (pe_ix (r := (rIxL K)) ix_list (pv 3) (pe_tidx (pe_ix ix_tup (pv 0) pe_int (fun _ _ => rfl)) (pa_cons (pe_ix ix_tup (pv 5) pe_int (fun _ _ => rfl)) pa_nil)) (fun _ _ => rfl)) (pe_ix (r := (rIxT K)) ix_tup (pv 5) pe_int (fun _ _ => rfl)) (nomark _)))) (fun _ _ _ _ _ => (pv 5)))
    (pss_cons (ps_for PassesOwn.never rfl (pi_list (pv 4)) (pg_name (i := 5) sc_law_plain_write.nd rfl (Or.inl rfl)) (pss_one (ps_asg (pe_ix ix_tup (pv 5) pe_int (fun _ _ => rfl)) (pg_sub (pv 3) (pe_tidx (pe_ix ix_tup (pv 0) pe_int (fun _ _ => rfl)) (pa_cons (pe_ix ix_tup (pv 5) pe_int (fun _ _ => rfl)) pa_nil)) set_list))))
    (pss_cons (ps_if (pt_cmpR op_eq (pe_callB call_len rfl T.z_len PySem.boot_len (pa_cons (pv 4) pa_nil)) pe_int (nomark _)) (pss_one ps_retN) pss_nil)
    (pss_one (ps_for PassesOwn.never rfl (pi_range1 rfl T.z_range (pa_cons (pe_callB call_len rfl T.z_len PySem.boot_len (pa_cons (pe_ix ix_tup (pv 0) pe_int (fun _ _ => rfl)) pa_nil)) pa_nil)) (pg_name (i := 6) sc_law_plain_write.nd rfl (Or.inl rfl)) (pss_cons (ps_set (i := 7) sc_law_plain_write.nd rfl (Or.inr rfl) (pe_call G__law_true (hr.mono (by omega)) rfl T.m__law_true T.F__law_true.kp T.b__law_true .nil pass0 (pa_cons (pv 0) (pa_cons (pv 3) pa_nil))))
    (pss_one (ps_if (pt_cmpR op_gt (pe_callB call_len rfl T.z_len PySem.boot_len (pa_cons (pe_lc (own := [(("_law_pair" : Str), 5)]) (wi := (iTup K (tOp (rIxL K) (tDGet (tVar 1) (tC (.str "notes"))) (tVar 6)))) (g := gName 5) (tt := (tTest (tOp rNe (tDGet (tVar 7) (tOp (rIxT K) (tVar 5) (tC (.int 0)))) (tOp (rIxT K) (tVar 5) (tC (.int 1)))))) (te := (tVar 5)) rfl sc_law_plain_write.nd (pi_tup (pe_ix ix_list (pe_dget (hu_of hr) (pv 1) pe_str (fun _ _ => rfl)) (pv 6) (fun _ _ => rfl))) (blkOk_by (own := [(("_law_pair" : Str), 5)]) (N := N_law_plain_write) (sc := defScope s_law_plain_write) (by decide +kernel)) (fun _ _ _ _ _ => (pg_name (i := 5) sc_law_plain_write.nd rfl (Or.inl rfl))) (fun _ _ _ _ _ => (pts_one (pt_cmpR op_ne (pe_dget (hu_of hr) (pv 7) (pe_ix (r := (rIxT K)) ix_tup (pv 5) pe_int (fun _ _ => rfl)) (fun _ _ => rfl)) (pe_ix (r := (rIxT K)) ix_tup (pv 5) pe_int (fun _ _ => rfl)) (nomark _)))) (fun _ _ _ _ _ => (pv 5))) pa_nil)) pe_int (nomark _)) (pss_one (ps_expr (pe_call G__law_plain_run (hr.mono (by omega)) rfl T.m__law_plain_run T.F__law_plain_run.kp T.b__law_plain_run .nil pass0 (pa_cons (pv 0) (pa_cons (pv 1) (pa_cons (pv 6) pa_nil)))))) pss_nil))))))))), ?_⟩
  obtain ⟨ll, ql, lx, qx, nx, m1, m2, m3, m4, m5, m6, m7, m8, d1, d2, d3, d4, d5⟩ := hA.ex
  obtain ⟨pa, aw, as, vd, ve, rfl, hP, h1, h2, h3, h4⟩ := hD
  obtain ⟨ae, ys, rfl, hE, hel, hex⟩ := pairs_at h4
  have hDD : partsX K H0 (.ref pa) p := ⟨pa, aw, as, vd, _, rfl, hP, h1, h2, h3, h4⟩
  have nd := cellsNodup ok
  have xl := n_len hwx
  have e4 := ok.e4
  refine ⟨_, rfl, md, _, rfl, dget_at m1 (mK_get ..).1, ?_⟩
  refine ⟨_, rfl, wa, rfl, ⟨_, SqL.of hwa⟩, fun D hD => buS_list (wx.zip wr) Prod.fst (fun c : V × (Str × Str) => decide (getE (p.sources.zip M.ws) c.2.1 ≠ some c.2.2)) (fun H v c => Tn K H v (wrD c.2)) (fun k h => Tn.keep k h) (SqL.of hwa) (List.map_fst_zip (Nat.le_of_eq xl)).symm (by rw [List.length_zip]; omega) hD ?_ ?_⟩
  · rintro j c H' hc s' Yes No yes no
    obtain ⟨c1, c2⟩ := List.getElem?_zip_eq_some.mp hc
    obtain ⟨d, hd, hdx⟩ := TnAll.get hwx c1
    rw [List.getElem?_map, c2] at hd
    cases hd
    obtain ⟨b2, e2, hB2⟩ := wr_str hdx
    rw [e2]
    have sx := hs.trans s'
    have hin := (hwi _ (List.mem_of_getElem? c2)).1
    have has := zip_has hin hg.wl.symm
    have ef := counts_if (c := c.2) has
    obtain ⟨k, k1, k2⟩ := first_at hin
    have kl : k < M.ws.length := by rw [hg.wl]; exact (List.getElem?_eq_some_iff.mp k1).1
    have k3 : M.ws[k]? = some M.ws[k] := List.getElem?_eq_getElem kl
    have k4 : knF (p.sources.zip M.ws) c.2.1 = M.ws[k] := by unfold knF; rw [getE_zip nd k1 k3]; rfl
    rw [k4] at ef
    have hB := SqT.same s' hB2
    refine ⟨rfl, ?_⟩
    refine ⟨_, rfl, _, rfl, pa, _, 1, _, rfl, rfl, SqT.same sx hP, rfl, as, _, rfl, h2.same sx, _, rfl, b2, _, 0, _, rfl, rfl, hB, rfl, as, p.sources, _, k, rfl, rfl, (h2.same sx).sq, k1, k2, wl, _, (k : Nat), .str M.ws[k], rfl, rfl, SqL.of (s' _ _ m2), atI_nat (by rw [List.getElem?_map, k3]; rfl), ?_⟩
    refine ⟨_, rfl, b2, _, 1, _, rfl, rfl, hB, rfl, rfl, _, rfl, if_known (fun h => ?_) (fun h => no (by rw [ef]; exact h) _ (Same.refl _))⟩
    refine ⟨_, rfl, yes (by rw [ef]; exact h) _ _ (Same.refl _) ?_⟩
    exact .tup hB (TnAll.strs [c.2.1, c.2.2])
  rintro H1 zs s1 hz hR
  have zx : TnAll K H1 zs ((counting p M.ws wr).map wrD) := by
    have h := hR.tn (g := fun c : V × (Str × Str) => wrD c.2)
    rw [show (fun c : V × (Str × Str) => wrD c.2) = wrD ∘ Prod.snd from rfl, ← List.map_map, zip_filter_snd (fun c => decide (getE (p.sources.zip M.ws) c.1 ≠ some c.2)) xl] at h
    exact h
  have zl := n_len zx
  have hci : ∀ c ∈ counting p M.ws wr, c.1 ∈ p.sources ∧ c.2 ∈ p.words := fun c hc => hwi c (List.mem_filter.mp hc).1
  have eW : lawWrite p most wr (M, b) = if counting p M.ws wr = [] then (M, b) else lawLook p most 0 p.effects ({ M with ws := (counting p M.ws wr).foldl (setW p) M.ws }, b) := rfl
  generalize counting p M.ws wr = cs at zx zl hci eW
  have nDw : D ≠ wl := Ne.symm (ne_of_none m2 hD)
  refine ⟨_, rfl, D, rfl, ⟨_, SqL.of hz⟩, for_list (K := K) (a := D) (xs := zs) (fun i σ H' => ∃ (v5 : Option V), σ = [some (.ref pa), some (.ref md), some (.ref wa), some (.ref wl), some (.ref D), v5, none, none] ∧ Same H0 H' ∧ LmAt K H' md wl nl most { M with ws := (cs.take i).foldl (setW p) M.ws } b ∧ H' D = some (.lst zs) ∧ TnAll K H' zs (cs.map wrD))
    ⟨none, rfl, hs.trans s1, hA.same s1, hz, zx⟩ (fun i σ H' _ ⟨_, _, _, _, h, _⟩ => SqL.of h) ?_ ?_⟩
  · rintro i x σ H2 hi ⟨v5, rfl, s2, hA2, hD2, hX2⟩
    obtain ⟨d, hd, hdx⟩ := TnAll.get hX2 hi
    rw [List.getElem?_map] at hd
    obtain ⟨c, hc, rfl⟩ := Option.map_eq_some_iff.mp hd
    obtain ⟨b2, rfl, hB2⟩ := wr_str hdx
    have wl2 : ((cs.take i).foldl (setW p) M.ws).length = p.sources.length := setWs_len _ hg.wl
    obtain ⟨k, k1, k2⟩ := first_at (hci c (List.mem_of_getElem? hc)).1
    obtain ⟨_, _, _, _, _, _, w2, _⟩ := hA2.ex
    have w2' : H2 wl = some (.lst (((cs.take i).foldl (setW p) M.ws).map V.str)) := w2
    refine ⟨_, rfl, b2, _, 1, _, rfl, rfl, hB2, rfl, _, rfl, _, rfl, pa, _, 1, _, rfl, rfl, SqT.same s2 hP, rfl, as, _, rfl, h2.same s2, _, rfl, b2, _, 0, _, rfl, rfl, hB2, rfl, as, p.sources, _, k, rfl, rfl, (h2.same s2).sq, k1, k2, wl, _, (k : Nat), k, rfl, rfl, w2', ixN_nat (by rw [List.length_map, wl2]; exact (List.getElem?_eq_some_iff.mp k1).1), ?_⟩
    have es : (((cs.take i).foldl (setW p) M.ws).map V.str).set k (.str c.2) = (setW p ((cs.take i).foldl (setW p) M.ws) c).map V.str := by rw [setW_at nd wl2 k1, List.map_set]
    rw [es]
    have tk : TK H2 (upd H2 wl (.lst ((setW p ((cs.take i).foldl (setW p) M.ws) c).map V.str))) := TK.upd (by rw [w2']; trivial)
    refine ⟨_, rfl, own_same s2 hn.wl, ?_, by rw [upd_ne nDw]; exact hD2, TnAll.keep tk hX2⟩
    rw [take_more hc, List.foldl_append]
    exact hA2.setWords _
  rintro σ H2 ⟨v5, rfl, s2, hA2, hD2, hX2⟩
  rw [zl, List.take_length] at hA2
  refine ⟨_, rfl, .ref D, _, rfl, .inl ⟨_, SqL.of hD2, rfl⟩, rfl, _, rfl, ?_⟩
  by_cases hc0 : cs = []
  · subst hc0
    obtain rfl : zs = [] := List.length_eq_zero_iff.mp zl
    rw [if_pos rfl] at eW
    rw [eW] at q
    exact if_true_of rfl (q _ s2 hA2)
  rw [if_neg hc0] at eW
  rw [eW] at q
  refine if_false_of (decide_eq_false fun e => hc0 (List.length_eq_zero_iff.mp (by injection e with e; omega))) ?_
  generalize hws : cs.foldl (setW p) M.ws = ws' at hA2 q
  have wsl : ws'.length = p.sources.length := by rw [← hws]; exact setWs_len _ hg.wl
  have wsw : ∀ z ∈ ws', z ∈ p.words := by rw [← hws]; exact setWs_in _ hg.ww fun c hc => (hci c hc).2
  have eyl : ((ys.length : Nat) : Int).toNat = p.effects.length := by rw [Int.toNat_natCast, hel]
  refine ⟨_, rfl, pa, _, 3, _, rfl, rfl, SqT.same s2 hP, rfl, .ref ae, _, rfl, .inr ⟨_, SqT.same s2 hE, rfl⟩, ((ys.length : Nat) : Int), rfl, by omega, by omega, for_range (lo := 0) (n := ((ys.length : Nat) : Int).toNat)
    (fun i σ H' => ∃ (v5 v6 v7 : Option V) (s : PM × Bool), σ = [some (.ref pa), some (.ref md), some (.ref wa), some (.ref wl), some (.ref D), v5, v6, v7] ∧ Same H0 H' ∧ LmAt K H' md wl nl most s.1 s.2 ∧ s.1.Good p ∧ s.1.rn ≤ most ∧ s.1.pot most ≤ 300 ∧ s.1.lro most ≤ 300 ∧ s.1.ws = ws' ∧ (∀ o ∈ s.1.nt, o ≠ none) ∧
      lawLook p most 0 p.effects ({ M with ws := ws' }, b) = lawLook p most i (p.effects.drop i) s)
    ⟨v5, none, none, ({ M with ws := ws' }, b), rfl, s2, hA2, ⟨wsl, wsw, hg.nl, hg.nn, hg.wt, hg.lg⟩, hrn, hpot, hlro, rfl, hnn, rfl⟩ ?_ ?_⟩
  · rintro i σ H3 hi ⟨v5, v6, v7, s, rfl, s3, hA3, g3, r3, p3, l3, ws3, n3, eM⟩
    rw [eyl] at hi
    have hq : p.effects[i]? = some p.effects[i] := List.getElem?_eq_getElem hi
    rw [lawLook_drop hq] at eM
    rw [show (0 : Int) + (i : Nat) = (i : Nat) by omega]
    obtain ⟨ll3, ql3, lx3, qx3, nx3, b1, b2, b3, b4, _⟩ := hA3.ex
    rw [ws3] at b2
    refine ⟨_, rfl, _, rfl, .ref pa, wl, p, m, ws', rfl, Tn.same s3 (Td.DataX.tn hDD), ok, hm, .inl (SqL.of b2), wsl, fun td H4 s4 _ hk => ?_⟩
    have il : i < s.1.nt.length := by rw [g3.nl]; exact hi
    have ho : s.1.nt[i]? = some s.1.nt[i] := List.getElem?_eq_getElem il
    rw [ho, Option.getD_some] at eM
    generalize hoo : s.1.nt[i] = o at ho eM
    obtain ⟨l, rfl⟩ : ∃ l, o = some l := by
      cases o with
      | none => exact absurd rfl (n3 _ (List.mem_of_getElem? ho))
      | some l => exact ⟨l, rfl⟩
    have nl3 := n_len b4
    obtain ⟨nv, hnv⟩ : ∃ nv, nx3[i]? = some nv := ⟨_, List.getElem?_eq_getElem (by omega)⟩
    obtain ⟨d, hd, hdx⟩ := TnAll.get b4 hnv
    rw [List.getElem?_map, ho] at hd
    cases hd
    obtain ⟨na, nz, rfl, hN, hX⟩ := Tn.tup_inv (Tn.same s4 hdx)
    have nzl : nz.length = l.length := n_len hX
    obtain ⟨l16, lin⟩ := g3.nn l (List.mem_of_getElem? ho)
    refine ⟨_, rfl, md, _, rfl, dget_at (s4 _ _ b1) (mK_get ..).2.1, _, rfl, nl, nx3, (i : Nat), .ref na, rfl, rfl, SqL.of (s4 _ _ b3), atI_nat hnv, na, rfl, ⟨_, hN⟩, fun D2 hD2' => buS_tup (nz.zip l) Prod.fst (fun c : V × (Str × Str) => decide (knF (known0 p ws') c.2.1 ≠ c.2.2)) (fun _ _ _ => True) (fun _ h => h) hN (List.map_fst_zip (Nat.le_of_eq nzl)).symm (by rw [List.length_zip]; omega) hD2' ?_ ?_⟩
    · rintro j c H5 hc s5 Yes No yes no
      obtain ⟨c1, c2⟩ := List.getElem?_zip_eq_some.mp hc
      obtain ⟨d, hd, hdx⟩ := TnAll.get hX c1
      rw [List.getElem?_map, c2] at hd
      cases hd
      obtain ⟨b5, e2, hB2⟩ := wr_str hdx
      rw [e2]
      have hB := SqT.same s5 hB2
      have ef : decide (knF (known0 p ws') c.2.1 ≠ c.2.2) = !decide (V.str (knF (known0 p ws') c.2.1) = V.str c.2.2) := (ne_str _ _).symm
      refine ⟨rfl, ?_⟩
      refine ⟨_, rfl, _, rfl, b5, _, 0, _, rfl, rfl, hB, rfl, td, _, rfl, get_known (s5 _ _ hk) (cells_has wsl (lin _ (List.mem_of_getElem? c2)).1), _, rfl, b5, _, 1, _, rfl, rfl, hB, rfl, rfl, _, rfl, if_known (fun h => ⟨_, rfl, yes (by rw [ef]; exact h) _ _ (Same.refl _) trivial⟩) (fun h => no (by rw [ef]; exact h) _ (Same.refl _))⟩
    rintro H5 zz s5 hzz hRz
    have zzl := hRz.len
    have ez : decide ((0 : Int) < (zz.length : Nat)) = stirred p s.1.ws (some l) := by
      rw [zzl, any_filter, ws3]
      have h := List.any_map (f := Prod.snd) (l := nz.zip l) (p := fun c : Str × Str => decide (knF (known0 p ws') c.1 ≠ c.2))
      rw [List.map_snd_zip (Nat.le_of_eq nzl.symm)] at h
      exact h.symm
    have s35 := s3.trans (s4.trans s5)
    have hA5 := hA3.same (s4.trans s5)
    refine ⟨.ref D2, _, rfl, .inl ⟨_, SqL.of hzz, rfl⟩, _, _, rfl, rfl, _, rfl, ?_⟩
    cases hst : stirred p s.1.ws (some l) with
    | true =>
      rw [hst] at ez
      refine if_true_of ez ?_
      rw [hst, if_pos rfl] at eM
      obtain ⟨y1, y2, y3, y4, y5, y6⟩ := lawRun_keeps (i := i) ok hm (List.mem_of_getElem? hq) g3 r3 n3
      exact ⟨_, rfl, _, rfl, _, rfl, .ref pa, md, wl, nl, i, _, p, m, most, s.1, s.2, H0, rfl, hDD, ok, hm, s35, hn, hA5, hq, g3, r3, p3, l3, fun H6 s6 h6 => ⟨_, _, _, lawRun p most i p.effects[i] s, rfl, s6, h6, y1, y2, Nat.le_trans y3 p3, Nat.le_trans y4 l3, y5.trans ws3, y6, eM⟩⟩
    | false =>
      rw [hst] at ez
      rw [hst, if_neg (by decide)] at eM
      exact if_false_of ez ⟨_, _, _, s, rfl, s35, hA5, g3, r3, p3, l3, ws3, n3, eM⟩
  · rintro σ H3 ⟨v5, v6, v7, s, rfl, s3, hA3, _, _, _, _, _, _, eM⟩
    rw [eyl, List.drop_length] at eM
    have e5 : lawLook p most 0 p.effects ({ M with ws := ws' }, b) = s := eM
    rw [e5] at q
    exact q H3 s3 hA3
end
end K68
namespace K68
open PySem PySem.Spec PyProof.Rows L2 Td
theorem lawLook_keeps {p : PP} {m most : Nat} (ok : p.Ok m) (hm : m ≤ 16) : ∀ (qs : List (Str × List Td.Row)) (i : Nat) (s : PM × Bool), (∀ q ∈ qs, q ∈ p.effects) → s.1.Good p → s.1.rn ≤ most → (∀ o ∈ s.1.nt, o ≠ none) →
    (lawLook p most i qs s).1.Good p ∧ (lawLook p most i qs s).1.rn ≤ most ∧ (lawLook p most i qs s).1.pot most ≤ s.1.pot most ∧ (lawLook p most i qs s).1.lro most ≤ s.1.lro most ∧ ∀ o ∈ (lawLook p most i qs s).1.nt, o ≠ none
  | [], i, s, _, g, r, n => ⟨g, r, Nat.le_refl _, Nat.le_refl _, n⟩
  | q :: qs, i, s, hq, g, r, n => by
    have hr := fun x hx => hq x (List.mem_cons_of_mem _ hx)
    have e1 : lawLook p most i (q :: qs) s = lawLook p most (i + 1) qs (if stirred p s.1.ws ((s.1.nt[i]?).getD none) = true then lawRun p most i q s else s) := rfl
    rw [e1]
    by_cases h : stirred p s.1.ws ((s.1.nt[i]?).getD none) = true
    · rw [if_pos h]
      obtain ⟨a1, a2, a3, a4, _, a6⟩ := lawRun_keeps (i := i) ok hm (hq q List.mem_cons_self) g r n
      obtain ⟨b1, b2, b3, b4, b5⟩ := lawLook_keeps ok hm qs (i + 1) _ hr a1 a2 a6
      exact ⟨b1, b2, Nat.le_trans b3 a3, Nat.le_trans b4 a4, b5⟩
    · rw [if_neg h]
      exact lawLook_keeps ok hm qs (i + 1) s hr g r n
theorem lawAll_keeps {p : PP} {m most : Nat} (ok : p.Ok m) (hm : m ≤ 16) : ∀ (qs : List (Str × List Td.Row)) (i : Nat) (s : PM × Bool), (∀ q ∈ qs, q ∈ p.effects) → s.1.Good p → s.1.rn ≤ most → (∀ o ∈ s.1.nt, o ≠ none) →
    (lawAll p most i qs s).1.Good p ∧ (lawAll p most i qs s).1.rn ≤ most ∧ (lawAll p most i qs s).1.pot most ≤ s.1.pot most ∧ (lawAll p most i qs s).1.lro most ≤ s.1.lro most ∧ ∀ o ∈ (lawAll p most i qs s).1.nt, o ≠ none
  | [], i, s, _, g, r, n => ⟨g, r, Nat.le_refl _, Nat.le_refl _, n⟩
  | q :: qs, i, s, hq, g, r, n => by
    have hr := fun x hx => hq x (List.mem_cons_of_mem _ hx)
    obtain ⟨a1, a2, a3, a4, _, a6⟩ := lawRun_keeps (i := i) ok hm (hq q List.mem_cons_self) g r n
    obtain ⟨b1, b2, b3, b4, b5⟩ := lawAll_keeps ok hm qs (i + 1) _ hr a1 a2 a6
    exact ⟨b1, b2, Nat.le_trans b3 a3, Nat.le_trans b4 a4, b5⟩
theorem lawWrite_keeps {p : PP} {m most : Nat} {wr : Td.Env} {s : PM × Bool} (ok : p.Ok m) (hm : m ≤ 16) (hw : ∀ c ∈ wr, c.1 ∈ p.sources ∧ c.2 ∈ p.words) (g : s.1.Good p) (r : s.1.rn ≤ most) (n : ∀ o ∈ s.1.nt, o ≠ none) :
    (lawWrite p most wr s).1.Good p ∧ (lawWrite p most wr s).1.rn ≤ most ∧ (lawWrite p most wr s).1.pot most ≤ s.1.pot most ∧ (lawWrite p most wr s).1.lro most ≤ s.1.lro most ∧ ∀ o ∈ (lawWrite p most wr s).1.nt, o ≠ none := by
  unfold lawWrite
  split
  · exact ⟨g, r, Nat.le_refl _, Nat.le_refl _, n⟩
  · exact lawLook_keeps ok hm p.effects 0 ({ s.1 with ws := (counting p s.1.ws wr).foldl (setW p) s.1.ws }, s.2) (fun q hq => hq) ⟨setWs_len _ g.wl, setWs_in _ g.ww fun c hc => (hw c (List.mem_filter.mp hc).1).2, g.nl, g.nn, g.wt, g.lg⟩ r n
theorem lawRun_true {p : PP} {most i : Nat} {q : Str × List Td.Row} {s : PM × Bool} (h : s.2 = true) : (lawRun p most i q s).2 = true := by
  unfold lawRun
  rw [if_pos (.inr h)]
theorem lawLook_true {p : PP} {most : Nat} : ∀ (qs : List (Str × List Td.Row)) (i : Nat) (s : PM × Bool), s.2 = true → (lawLook p most i qs s).2 = true
  | [], _, _, h => h
  | q :: qs, i, s, h => lawLook_true qs (i + 1) _ (by split; exact lawRun_true h; exact h)
theorem lawAll_true {p : PP} {most : Nat} : ∀ (qs : List (Str × List Td.Row)) (i : Nat) (s : PM × Bool), s.2 = true → (lawAll p most i qs s).2 = true
  | [], _, _, h => h
  | q :: qs, i, s, h => lawAll_true qs (i + 1) _ (lawRun_true h)
theorem lawWrite_true {p : PP} {most : Nat} {wr : Td.Env} {s : PM × Bool} (h : s.2 = true) : (lawWrite p most wr s).2 = true := by
  unfold lawWrite
  split
  · exact h
  · exact lawLook_true _ _ _ h
theorem lawRest_true {p : PP} {most : Nat} : ∀ (n : Nat) (s : PM × Bool), s.2 = true → (lawRest p most n s).2 = true
  | 0, _, h => h
  | n + 1, s, h => by
    unfold lawRest
    split
    · exact lawRest_true n s h
    · exact lawRest_true n _ (lawWrite_true h)
theorem look_rel {p : PP} {most : Nat} : ∀ (qs : List (Str × List Td.Row)) (i : Nat) (M : PM), (∀ M', lookFrom p most i qs M = some M' → lawLook p most i qs (M, false) = (M', false)) ∧ (lookFrom p most i qs M = none → (lawLook p most i qs (M, false)).2 = true)
  | [], i, M => ⟨fun M' e => by unfold lookFrom at e; cases e; rfl, fun e => by unfold lookFrom at e; cases e⟩
  | q :: qs, i, M => by
    have e1 : lawLook p most i (q :: qs) (M, false) = lawLook p most (i + 1) qs (if stirred p M.ws ((M.nt[i]?).getD none) = true then lawRun p most i q (M, false) else (M, false)) := rfl
    have e2 : lookFrom p most i (q :: qs) M = if stirred p M.ws ((M.nt[i]?).getD none) = true then (if M.rn = most then none else lookFrom p most (i + 1) qs (runOne p i q M)) else lookFrom p most (i + 1) qs M := rfl
    rw [e1, e2]
    by_cases h : stirred p M.ws ((M.nt[i]?).getD none) = true
    · rw [if_pos h, if_pos h]
      by_cases h2 : M.rn = most
      · rw [if_pos h2]
        exact ⟨(fun M' e => by cases e), fun _ => lawLook_true _ _ _ (by unfold lawRun; rw [if_pos (.inl h2)])⟩
      · rw [if_neg h2]
        have e3 : lawRun p most i q (M, false) = (runOne p i q M, false) := if_neg (by rintro (x | x); exact h2 x; cases x)
        rw [e3]
        exact look_rel qs (i + 1) _
    · rw [if_neg h, if_neg h]
      exact look_rel qs (i + 1) _
theorem write_rel {p : PP} {most : Nat} {wr : Td.Env} {M : PM} : (∀ M', writeF p most wr M = some M' → lawWrite p most wr (M, false) = (M', false)) ∧ (writeF p most wr M = none → (lawWrite p most wr (M, false)).2 = true) := by
  have e1 : lawWrite p most wr (M, false) = if counting p M.ws wr = [] then (M, false) else lawLook p most 0 p.effects ({ M with ws := (counting p M.ws wr).foldl (setW p) M.ws }, false) := rfl
  have e2 : writeF p most wr M = if counting p M.ws wr = [] then some M else lookFrom p most 0 p.effects { M with ws := (counting p M.ws wr).foldl (setW p) M.ws } := rfl
  rw [e1, e2]
  by_cases h : counting p M.ws wr = []
  · rw [if_pos h, if_pos h]
    exact ⟨fun M' e => by cases e; rfl, fun e => by cases e⟩
  · rw [if_neg h, if_neg h]
    exact look_rel _ _ _
theorem lawRest_nil {p : PP} {most : Nat} : ∀ (n : Nat) (s : PM × Bool), s.1.wt = [] → lawRest p most n s = s
  | 0, _, _ => rfl
  | n + 1, s, h => by
    unfold lawRest
    rw [h]
    exact lawRest_nil n s h
theorem rest_rel {p : PP} {most : Nat} : ∀ (n : Nat) (M : PM), (∀ M', restF p most n M = some M' → lawRest p most n (M, false) = (M', false)) ∧ (restF p most n M = none → (lawRest p most n (M, false)).2 = true)
  | 0, M => ⟨fun M' e => by unfold restF at e; cases e; rfl, fun e => by unfold restF at e; cases e⟩
  | n + 1, M => by
    cases hw : M.wt with
    | nil =>
      have e1 : restF p most (n + 1) M = some M := by unfold restF; rw [hw]
      rw [e1, lawRest_nil (n + 1) (M, false) hw]
      exact ⟨fun M' e => by cases e; rfl, fun e => by cases e⟩
    | cons c r =>
      have e1 : restF p most (n + 1) M = (writeF p most [c] { M with wt := r }).bind (restF p most n) := by
        show (match M.wt with | [] => some M | c :: r => (writeF p most [c] { M with wt := r }).bind (restF p most n)) = _
        rw [hw]
      have e2 : lawRest p most (n + 1) (M, false) = lawRest p most n (lawWrite p most [c] ({ M with wt := r }, false)) := by
        show (match M.wt with | [] => lawRest p most n (M, false) | c :: r => lawRest p most n (lawWrite p most [c] ({ M with wt := r }, false))) = _
        rw [hw]
      rw [e1, e2]
      obtain ⟨a, b⟩ := write_rel (p := p) (most := most) (wr := [c]) (M := { M with wt := r })
      cases e3 : writeF p most [c] { M with wt := r } with
      | none =>
        exact ⟨(fun M' e => by cases e), fun _ => lawRest_true n _ (b e3)⟩
      | some M1 =>
        rw [a M1 e3]
        exact rest_rel n M1
/-- the start: what is not yet run is run in any case -/
theorem all_rel {p : PP} {most : Nat} : ∀ (qs : List (Str × List Td.Row)) (i : Nat) (M : PM) (nt : List (Option Td.Env)), nt.length = M.nt.length → i + qs.length = M.nt.length → nt.take i = M.nt.take i → (∀ j, i ≤ j → (M.nt[j]?).getD none = none) →
    (∀ M', lookFrom p most i qs M = some M' → lawAll p most i qs ({ M with nt := nt }, false) = (M', false)) ∧ (lookFrom p most i qs M = none → (lawAll p most i qs ({ M with nt := nt }, false)).2 = true)
  | [], i, M, nt, hl, hi, ht, _ => by
    have e : nt = M.nt := by
      rw [List.take_of_length_le (by simp at hi; omega), List.take_of_length_le (by simp at hi; omega)] at ht
      exact ht
    exact ⟨fun M' e' => by unfold lookFrom at e'; cases e'; rw [e]; rfl, fun e' => by unfold lookFrom at e'; cases e'⟩
  | q :: qs, i, M, nt, hl, hi, ht, hn => by
    have e1 : lawAll p most i (q :: qs) ({ M with nt := nt }, false) = lawAll p most (i + 1) qs (lawRun p most i q ({ M with nt := nt }, false)) := rfl
    have e2 : lookFrom p most i (q :: qs) M = if stirred p M.ws ((M.nt[i]?).getD none) = true then (if M.rn = most then none else lookFrom p most (i + 1) qs (runOne p i q M)) else lookFrom p most (i + 1) qs M := rfl
    rw [hn i (Nat.le_refl _), if_pos (show stirred p M.ws none = true from rfl)] at e2
    rw [e1, e2]
    rw [List.length_cons] at hi
    by_cases h2 : M.rn = most
    · rw [if_pos h2]
      exact ⟨(fun M' e => by cases e), fun _ => lawAll_true _ _ _ (by unfold lawRun; rw [if_pos (.inl h2)])⟩
    · rw [if_neg h2]
      have e3 : lawRun p most i q ({ M with nt := nt }, false) = (runOne p i q { M with nt := nt }, false) := if_neg (by rintro (x | x); exact h2 x; cases x)
      rw [e3]
      have h := all_rel (p := p) (most := most) qs (i + 1) (runOne p i q M) (nt.set i (some (effRun p M.ws q).noted)) (by show (nt.set ..).length = (M.nt.set ..).length; rw [List.length_set, List.length_set]; exact hl) (by show i + 1 + qs.length = (M.nt.set ..).length; rw [List.length_set]; omega) ?_ (fun j hj => ?_)
      · exact h
      · show (nt.set i _).take (i + 1) = (M.nt.set i _).take (i + 1)
        rw [List.take_succ, List.take_succ, List.getElem?_set_self (by omega), List.getElem?_set_self (by omega), List.take_set_of_le (Nat.le_refl _), List.take_set_of_le (Nat.le_refl _), ht]
      · show ((M.nt.set i _)[j]?).getD none = none
        rw [List.getElem?_set_ne (by omega)]
        exact hn j (by omega)
def spLRest (K : PySem.W.Frag) : Sp := fun vs H Q _ => ∃ (pv : V) (md wl nl : Addr) (p : PP) (m most : Nat) (M : PM) (b : Bool) (H0 : Hp), vs = [pv, .ref md, .int (most : Nat)] ∧ partsX K H0 pv p ∧ p.Ok m ∧ m ≤ 16 ∧ Same H0 H ∧ LNew H0 md wl nl ∧ LmAt K H md wl nl most M b ∧ most ≤ 6 ∧
  M.Good p ∧ M.rn ≤ most ∧ M.pot most ≤ 300 ∧ M.lro most ≤ 300 ∧ (∀ o ∈ M.nt, o ≠ none) ∧ ∀ (v : V) H', Same H0 H' → LmAt K H' md wl nl most (lawRest p most (16 * most + 1) (M, b)).1 (lawRest p most (16 * most + 1) (M, b)).2 → Tn K H' v (restD (lawRest p most (16 * most + 1) (M, b)).1) → Q v H'
section
variable {P : Program} {w : World} {K : PySem.W.Frag} {mg : Str → Option Value} {base : Heap}
theorem ok_lrest (T : Tops w K mg) (G__law_plain_write : FnOk P w K mg base CX0 7 T.a__law_plain_write T.d__law_plain_write ["_law_parts_here", "_law_m", "_law_writes"] (spLWrite K)) :
    FnOk P w K mg base CX0 8 T.a__law_plain_rest T.d__law_plain_rest ["_law_parts_here", "_law_m", "_law_bound"] (spLRest K) := by
  refine T.F__law_plain_rest.ok sc_law_plain_rest (fun vs H Q E h => ?_) (fun cdv AR outer s H vs Q E hr h => ?_)
  · obtain ⟨pd, md, wl, nl, p, m, most, M, b, H0, rfl, _⟩ := h
    rfl
  obtain ⟨pd, md, wl, nl, p, m, most, M, b, H0, rfl, hD, ok, hm, hs, hn, hA, hm6, hg, hrn, hpot, hlro, hnn, q⟩ := h
  refine ⟨_, (pss_cons (ps_for PassesOwn.never rfl (pi_range1 rfl T.z_range (pa_cons (pe_op op_add (pe_op op_mul pe_int (pv 2)) pe_int) pa_nil)) (pg_name (i := 3) sc_law_plain_rest.nd rfl (Or.inl rfl)) (pss_one (ps_if (pt_cmpR op_gt (pe_callB call_len rfl T.z_len PySem.boot_len (pa_cons (pe_dget (hu_of hr) (pv 1) pe_str (fun _ _ => rfl)) pa_nil)) pe_int (nomark _)) (pss_cons (ps_set (i := 4) sc_law_plain_rest.nd rfl (Or.inl rfl) (pe_ix ix_list (pe_dget (hu_of hr) (pv 1) pe_str (fun _ _ => rfl)) pe_int (fun _ _ => rfl)))
    (pss_cons (ps_dput (hu_of hr) (pv 1) pe_str (pe_slice sl_list (pe_dget (hu_of hr) (pv 1) pe_str (fun _ _ => rfl)) (po_some pe_int) po_none) rfl)
    (pss_one (ps_expr (pe_call G__law_plain_write (hr.mono (by omega)) rfl T.m__law_plain_write T.F__law_plain_write.kp T.b__law_plain_write .nil pass0 (pa_cons (pv 0) (pa_cons (pv 1) (pa_cons (pe_lst (pa_cons (pv 4) pa_nil)) pa_nil)))))))) pss_nil)))
    (pss_one (ps_ret (pe_tup (pa_cons (pe_callTy (T := "tuple") call_tuple_of rfl T.z_tuple (by decide +kernel) (pa_cons (pe_dget (hu_of hr) (pv 1) pe_str (fun _ _ => rfl)) pa_nil)) (pa_cons (pe_callTy (T := "tuple") call_tuple_of rfl T.z_tuple (by decide +kernel) (pa_cons (pe_dget (hu_of hr) (pv 1) pe_str (fun _ _ => rfl)) pa_nil)) pa_nil)))))), ?_⟩
  have eN : ((16 : Int) * (most : Nat) + 1).toNat = 16 * most + 1 := by omega
  refine ⟨_, rfl, _, _, rfl, rfl, .inl ⟨by decide, by decide⟩, _, _, rfl, rfl, ((16 : Int) * (most : Nat) + 1), rfl, by omega, by omega, for_range (lo := 0) (n := ((16 : Int) * (most : Nat) + 1).toNat)
    (fun i σ H' => ∃ (v3 v4 : Option V) (s : PM × Bool), σ = [some pd, some (.ref md), some (.int (most : Nat)), v3, v4] ∧ Same H0 H' ∧ LmAt K H' md wl nl most s.1 s.2 ∧ s.1.Good p ∧ s.1.rn ≤ most ∧ s.1.pot most ≤ 300 ∧ s.1.lro most ≤ 300 ∧ (∀ o ∈ s.1.nt, o ≠ none) ∧
      lawRest p most (16 * most + 1) (M, b) = lawRest p most (16 * most + 1 - i) s)
    ⟨none, none, (M, b), rfl, hs, hA, hg, hrn, hpot, hlro, hnn, rfl⟩ ?_ ?_⟩
  · rintro i σ H1 hi ⟨v3, v4, s, rfl, s1, hA1, g1, r1, p1, l1, n1, eM⟩
    rw [eN] at hi
    obtain ⟨k, hk⟩ : ∃ k, 16 * most + 1 - i = k + 1 := ⟨16 * most - i, by omega⟩
    have hk' : 16 * most + 1 - (i + 1) = k := by omega
    rw [hk] at eM
    obtain ⟨ll, ql, lx, qx, nx, m1, m2, m3, m4, m5, m6, m7, m8, d1, d2, d3, d4, d5⟩ := hA1.ex
    have ql' := n_len m8
    refine ⟨_, rfl, md, _, rfl, dget_at m1 (mK_get ..).2.2.2.1, .ref ql, _, rfl, .inl ⟨_, SqL.of m7, rfl⟩, _, _, rfl, rfl, _, rfl, ?_⟩
    cases hw : s.1.wt with
    | nil =>
      rw [hw] at ql'
      have e1 : lawRest p most (k + 1) s = lawRest p most k s := by
        show (match s.1.wt with | [] => lawRest p most k s | c :: r => lawRest p most k (lawWrite p most [c] ({ s.1 with wt := r }, s.2))) = _
        rw [hw]
      refine if_false_of (decide_eq_false (by rw [ql']; decide)) ⟨_, _, s, rfl, s1, hA1, g1, r1, p1, l1, n1, ?_⟩
      rw [hk']
      exact eM.trans e1
    | cons c r =>
      rw [hw] at ql' m8
      cases qx with
      | nil => cases ql'
      | cons v wr =>
      have e1 : lawRest p most (k + 1) s = lawRest p most k (lawWrite p most [c] ({ s.1 with wt := r }, s.2)) := by
        show (match s.1.wt with | [] => lawRest p most k s | c :: r => lawRest p most k (lawWrite p most [c] ({ s.1 with wt := r }, s.2))) = _
        rw [hw]
      have eM' := eM.trans e1
      obtain ⟨hv, hwr⟩ : Tn K H1 v (wrD c) ∧ TnAll K H1 wr (r.map wrD) := by cases m8 with | cons a b => exact ⟨a, b⟩
      refine if_true_of (decide_eq_true (by rw [List.length_cons]; omega)) ?_
      refine ⟨_, rfl, md, _, rfl, dget_at m1 (mK_get ..).2.2.2.1, ql, _, 0, v, rfl, rfl, SqL.of m7, atI_nat (j := 0) rfl, ?_⟩
      refine ⟨_, rfl, md, _, rfl, dget_at m1 (mK_get ..).2.2.2.1, 1, rfl, ?_⟩
      try dsimp only [tNoPart]
      refine ⟨ql, _, rfl, SqL.of m7, fun c2 hc2 => ?_⟩
      rw [cut_from1]
      have t2 := Same.new hc2 (.lst ((v :: wr).drop 1))
      have q2 : upd H1 c2 (.lst ((v :: wr).drop 1)) c2 = some (.lst wr) := upd_same
      have x2 := ne_of_none m2 hc2
      have x3 := ne_of_none m3 hc2
      generalize upd H1 c2 (.lst ((v :: wr).drop 1)) = H2 at t2 q2
      have p2 := t2 _ _ m1
      refine ⟨_, rfl, md, _, rfl, DPut.k (k := .inr "waiting") p2 (small1000 (by show 6 ≤ 1000; decide)), ?_⟩
      rw [mK_wait]
      have s3 := own_same (o := .dK (mK wl nl ll c2 (most - s.1.rn) s.2)) (s1.trans t2) hn.md
      have tk3 : TK H2 (upd H2 md (.dK (mK wl nl ll c2 (most - s.1.rn) s.2))) := TK.upd (by rw [p2]; trivial)
      have mv : ∀ {a : Addr} {xs : List V}, H2 a = some (.lst xs) → upd H2 md (.dK (mK wl nl ll c2 (most - s.1.rn) s.2)) a = some (.lst xs) := fun {a xs} e => by
        rw [upd_ne (ne_of e p2 (by intro z; cases z))]; exact e
      have tkk := (TK.of_same t2).trans tk3
      have hA3 : LmAt K (upd H2 md (.dK (mK wl nl ll c2 (most - s.1.rn) s.2))) md wl nl most { s.1 with wt := r } s.2 :=
        ⟨ll, c2, lx, wr, nx, upd_same, mv (t2 _ _ m2), mv (t2 _ _ m3), TnAll.keep tkk m4, mv (t2 _ _ m5), TnAll.keep tkk m6, mv q2, TnAll.keep tkk hwr, d1, d2, x2, d4, x3⟩
      have hv3 := Tn.keep tkk hv
      have w3 := mv (t2 _ _ m2)
      have n3 := mv (t2 _ _ m3)
      generalize upd H2 md (.dK (mK wl nl ll c2 (most - s.1.rn) s.2)) = H3 at s3 hA3 hv3 w3 n3
      refine ⟨_, rfl, _, rfl, _, rfl, by show 1 ≤ sizeLine; decide, fun wa hwa => ?_⟩
      have t4 := Same.new hwa (.lst [v])
      have g3 : ({ s.1 with wt := r } : PM).Good p := ⟨g1.wl, g1.ww, g1.nl, g1.nn, fun x hx => g1.wt x (by rw [hw]; exact List.mem_cons_of_mem _ hx), g1.lg⟩
      have hci : ∀ x ∈ [c], x.1 ∈ p.sources ∧ x.2 ∈ p.words := fun x hx => by rw [List.mem_singleton.mp hx]; exact g1.wt c (by rw [hw]; exact List.mem_cons_self)
      have pp : ({ s.1 with wt := r } : PM).pot most ≤ 300 := by
        have : s.1.pot most = (r.length + 1) + 16 * (most - s.1.rn) := by unfold PM.pot; rw [hw]; rfl
        show r.length + 16 * (most - s.1.rn) ≤ 300
        omega
      obtain ⟨y1, y2, y3, y4, y5⟩ := lawWrite_keeps (wr := [c]) (s := ({ s.1 with wt := r }, s.2)) ok hm hci g3 r1 n1
      exact ⟨pd, md, wl, nl, wa, [v], [c], p, m, most, { s.1 with wt := r }, s.2, H0, rfl, hD, ok, hm, s3.trans t4, hn, hA3.same t4, upd_same, Ne.symm (ne_of_none w3 hwa), Ne.symm (ne_of_none n3 hwa), .cons (Tn.same t4 hv3) .nil, by show 1 ≤ 16; decide, hci, g3, r1, pp, l1, n1, fun H' s' h' =>
        ⟨_, _, lawWrite p most [c] ({ s.1 with wt := r }, s.2), rfl, s', h', y1, y2, Nat.le_trans y3 pp, Nat.le_trans y4 l1, y5, by rw [hk']; exact eM'⟩⟩
  · rintro σ H1 ⟨v3, v4, s, rfl, s1, hA1, g1, r1, p1, l1, n1, eM⟩
    rw [eN, Nat.sub_self] at eM
    have e2 : lawRest p most (16 * most + 1) (M, b) = s := eM
    rw [e2] at q
    obtain ⟨ll, ql, lx, qx, nx, m1, m2, m3, m4, m5, m6, m7, m8, d1, d2, d3, d4, d5⟩ := hA1.ex
    refine ⟨_, rfl, md, _, rfl, dget_at m1 (mK_get ..).1, wl, _, rfl, .inl ⟨SqL.of m2, fun t1 ht1 => ?_⟩⟩
    have z1 := Same.new ht1 (.tup (s.1.ws.map V.str))
    refine ⟨_, rfl, md, _, rfl, dget_at (z1 _ _ m1) (mK_get ..).2.1, nl, _, rfl, .inl ⟨SqL.of (z1 _ _ m3), fun t2 ht2 => ⟨by show 2 ≤ sizeLine; decide, fun t3 ht3 => ?_⟩⟩⟩
    have z2 := Same.new ht2 (.tup nx)
    have z3 := Same.new ht3 (.tup [V.ref t1, .ref t2])
    have z := z1.trans (z2.trans z3)
    exact q (.ref t3) _ (s1.trans z) (hA1.same z) (.tup (SqT.of upd_same) (.cons (.tup (SqT.same (z2.trans z3) (SqT.of upd_same)) (TnAll.strs _)) (.cons (.tup (SqT.same z3 (SqT.of upd_same)) (TnAll.keep (TK.of_same z) m4)) .nil)))
end
def m4 (wl nl ll ql : Addr) : List (Key × V) := [(.inr "words", .ref wl), (.inr "notes", .ref nl), (.inr "log", .ref ll), (.inr "waiting", .ref ql)]
theorem m4_merge (wl nl ll ql : Addr) : mergeK [] (m4 wl nl ll ql) = m4 wl nl ll ql := by kernel_rfl
theorem m4_full (wl nl ll ql : Addr) (n : Nat) : putK (putK (m4 wl nl ll ql) (.inr "left" : Key) (.int (n : Nat))) (.inr "long" : Key) (.bl false) = mK wl nl ll ql n false := by kernel_rfl
theorem lm_made {K : PySem.W.Frag} {H : Hp} {md wl nl ll ql : Addr} {ws : List Str} {nt : List (Option Td.Env)} {nx : List V} {most : Nat} {o : HO} (e0 : H md = some o) (ho : ∃ kvs, o = .dK kvs) (e1 : H wl = some (.lst (ws.map V.str))) (e2 : H nl = some (.lst nx)) (e3 : TnAll K H nx (nt.map noteD)) (e4 : H ll = some (.lst [])) (e5 : H ql = some (.lst []))
    (d1 : wl ≠ nl) (d2 : wl ≠ ll) (d3 : wl ≠ ql) (d4 : nl ≠ ll) (d5 : nl ≠ ql) : LmAt K (upd H md (.dK (mK wl nl ll ql most false))) md wl nl most (atR ws nt) false := by
  obtain ⟨kvs, rfl⟩ := ho
  have tk : TK H (upd H md (.dK (mK wl nl ll ql most false))) := TK.upd (by rw [e0]; trivial)
  exact ⟨ll, ql, [], [], nx, upd_same, by rw [upd_ne (ne_of e1 e0 (by intro z; cases z))]; exact e1, by rw [upd_ne (ne_of e2 e0 (by intro z; cases z))]; exact e2, TnAll.keep tk e3, by rw [upd_ne (ne_of e4 e0 (by intro z; cases z))]; exact e4, .nil, by rw [upd_ne (ne_of e5 e0 (by intro z; cases z))]; exact e5, .nil, d1, d2, d3, d4, d5⟩
theorem beg_rel {p : PP} {most : Nat} {ws : List Str} :
    (∀ M', begF p most ws = some M' → lawRest p most (16 * most + 1) (lawAll p most 0 p.effects (atR ws (p.effects.map fun _ => some []), false)) = (M', false)) ∧
    (begF p most ws = none → (lawRest p most (16 * most + 1) (lawAll p most 0 p.effects (atR ws (p.effects.map fun _ => some []), false))).2 = true) := by
  obtain ⟨a, b⟩ := all_rel (p := p) (most := most) p.effects 0 (PM.mk ws (p.effects.map fun _ => none) [] [] 0) (p.effects.map fun _ => some []) (by simp) (by simp) (by simp) (fun j _ => by
    show ((p.effects.map fun _ => (none : Option Td.Env))[j]?).getD none = none
    rw [List.getElem?_map]
    cases p.effects[j]? <;> rfl)
  have e0 : (({ PM.mk ws (p.effects.map fun _ => none) [] [] 0 with nt := p.effects.map fun _ => some [] } : PM), false) = (atR ws (p.effects.map fun _ => some []), false) := rfl
  rw [e0] at a b
  unfold begF
  cases e : lookFrom p most 0 p.effects ⟨ws, p.effects.map fun _ => none, [], [], 0⟩ with
  | none => exact ⟨(fun M' z => nomatch z), fun _ => lawRest_true _ _ (b e)⟩
  | some M1 =>
    rw [a M1 e]
    exact rest_rel _ _
theorem mov_rel {p : PP} {most : Nat} {M : PM} {wr : Td.Env} : (∀ M', movF p most M wr = some M' → lawRest p most (16 * most + 1) (lawWrite p most wr (M, false)) = (M', false)) ∧ (movF p most M wr = none → (lawRest p most (16 * most + 1) (lawWrite p most wr (M, false))).2 = true) := by
  obtain ⟨a, b⟩ := write_rel (p := p) (most := most) (wr := wr) (M := M)
  unfold movF
  cases e : writeF p most wr M with
  | none => exact ⟨(fun M' z => nomatch z), fun _ => lawRest_true _ _ (b e)⟩
  | some M1 =>
    rw [a M1 e]
    exact rest_rel _ _
/-- a told or a long one -/
def ansD (most : Nat) : Option PyData → PyData
  | some d => .tuple [.str "told", d]
  | none => .tuple [.str "long", .int (most : Nat)]
def spLBegin (K : PySem.W.Frag) : Sp := fun vs H Q _ => ∃ (pv : V) (wa : Addr) (ws : List Str) (p : PP) (m most : Nat), vs = [pv, .ref wa, .int (most : Nat)] ∧ partsX K H pv p ∧ p.Ok m ∧ m ≤ 16 ∧ 1 ≤ most ∧ most ≤ 6 ∧ SqT K H wa (ws.map V.str) ∧ ws.length = p.sources.length ∧ (∀ z ∈ ws, z ∈ p.words) ∧
  ∀ (v : V) H', Same H H' → Tn K H' v (ansD most ((begF p most ws).map begD)) → Q v H'
def spLStep (K : PySem.W.Frag) : Sp := fun vs H Q _ => ∃ (pv sv dv : V) (ws : List Str) (nt : List (Option Td.Env)) (de : De) (p : PP) (m most : Nat), vs = [pv, sv, dv, .int (most : Nat)] ∧ partsX K H pv p ∧ p.Ok m ∧ m ≤ 16 ∧ 1 ≤ most ∧ most ≤ 6 ∧
  Tn K H sv (restD (atR ws nt)) ∧ (atR ws nt).Good p ∧ (∀ o ∈ nt, o ≠ none) ∧ de.Of p ∧ Tn K H dv de.data ∧
  ∀ (v : V) H', Same H H' → Tn K H' v (ansD most (stepF p most (atR ws nt) de)) → Q v H'
section
variable {P : Program} {w : World} {K : PySem.W.Frag} {mg : Str → Option Value} {base : Heap}
theorem ok_lbegin (T : Tops w K mg) (G__law_plain_rest : FnOk P w K mg base CX0 8 T.a__law_plain_rest T.d__law_plain_rest ["_law_parts_here", "_law_m", "_law_bound"] (spLRest K))
    (G__law_plain_run : FnOk P w K mg base CX0 6 T.a__law_plain_run T.d__law_plain_run ["_law_parts_here", "_law_m", "_law_at"] (spLRun K)) :
    FnOk P w K mg base CX0 9 T.a__law_plain_begin T.d__law_plain_begin ["_law_parts_here", "_law_words_here", "_law_bound"] (spLBegin K) := by
  refine T.F__law_plain_begin.ok sc_law_plain_begin (fun vs H Q E h => ?_) (fun cdv AR outer s H vs Q E hr h => ?_)
  · obtain ⟨pd, wa, ws, p, m, most, rfl, _⟩ := h
    rfl
  obtain ⟨pd, wa, ws, p, m, most, rfl, hD, ok, hm, hm1, hm6, hW, hl, hw, q⟩ := h
  refine ⟨_, (pss_cons (ps_set (i := 3) sc_law_plain_begin.nd rfl (Or.inl rfl) (pe_disp (pps_cons pe_str (pe_callTy call_list_of rfl T.z_list (by decide +kernel) (pa_cons (pv 1) pa_nil)) (pps_cons pe_str (pe_lc (own := [(("_law_pair" : Str), 6)]) (wi := (iTup K (tOp (rIxT K) (tVar 0) (tC (.int 3))))) (g := gName 6) (tt := tYes) (te := (tTup tNil)) rfl sc_law_plain_begin.nd (pi_tup (pe_ix ix_tup (pv 0) pe_int (fun _ _ => rfl))) (blkOk_by (own := [(("_law_pair" : Str), 6)]) (N := N_law_plain_begin) (sc := defScope s_law_plain_begin) (by decide +kernel)) (fun _ _ _ _ _ => (pg_name (i := 6) sc_law_plain_begin.nd rfl (Or.inl rfl))) (fun _ _ _ _ _ => pts_nil) (fun _ _ _ _ _ => (pe_tup pa_nil))) (pps_cons pe_str (pe_lst pa_nil) (pps_cons pe_str (pe_lst pa_nil) pps_nil)))) (by rfl) (by rfl) (fun z => by cases z) (by decide)))
    (pss_cons (ps_dput (hu_of hr) (pv 3) pe_str (pv 2) rfl)
    (pss_cons (ps_dput (hu_of hr) (pv 3) pe_str pe_bl rfl)
    (pss_cons (ps_for PassesOwn.never rfl (pi_range1 rfl T.z_range (pa_cons (pe_callB call_len rfl T.z_len PySem.boot_len (pa_cons (pe_ix ix_tup (pv 0) pe_int (fun _ _ => rfl)) pa_nil)) pa_nil)) (pg_name (i := 4) sc_law_plain_begin.nd rfl (Or.inl rfl)) (pss_one (ps_expr (pe_call G__law_plain_run (hr.mono (by omega)) rfl T.m__law_plain_run T.F__law_plain_run.kp T.b__law_plain_run .nil pass0 (pa_cons (pv 0) (pa_cons (pv 3) (pa_cons (pv 4) pa_nil)))))))
    (pss_cons (ps_set (i := 5) sc_law_plain_begin.nd rfl (Or.inl rfl) (pe_call G__law_plain_rest (hr.mono (by omega)) rfl T.m__law_plain_rest T.F__law_plain_rest.kp T.b__law_plain_rest .nil pass0 (pa_cons (pv 0) (pa_cons (pv 3) (pa_cons (pv 2) pa_nil)))))
    (pss_cons (ps_if (pt_val (pe_dget (hu_of hr) (pv 3) pe_str (fun _ _ => rfl))) (pss_one (ps_ret (pe_tup (pa_cons pe_str (pa_cons (pv 2) pa_nil))))) pss_nil)
    (pss_one (ps_ret (pe_tup (pa_cons pe_str (pa_cons (pe_tup (pa_cons (pv 5) (pa_cons (pe_callTy (T := "tuple") call_tuple_of rfl T.z_tuple (by decide +kernel) (pa_cons (pe_dget (hu_of hr) (pv 3) pe_str (fun _ _ => rfl)) pa_nil)) pa_nil))) pa_nil))))))))))), ?_⟩
  have hDD := hD
  obtain ⟨pa, aw, as, vd, ve, rfl, hP, h1, h2, h3, h4⟩ := hD
  obtain ⟨ae, ys, rfl, hE, hel, hex⟩ := pairs_at h4
  have e4 := ok.e4
  refine fun md hmd => ?_
  have s1 := Same.new hmd (.dK [])
  have r1 : upd H md (.dK []) md = some (.dK []) := upd_same
  dsimp only
  generalize upd H md (.dK []) = H1 at s1 r1
  refine ⟨_, rfl, wa, _, rfl, .inr (SqT.same s1 hW), fun wl hwl => ?_⟩
  have f1 : H wl = none := free_of s1 hwl
  have s2 := Same.new hwl (.lst (ws.map V.str))
  have w2 : upd H1 wl (.lst (ws.map V.str)) wl = some (.lst (ws.map V.str)) := upd_same
  have s12 := s1.trans s2
  have r2 := s2 _ _ r1
  generalize upd H1 wl (.lst (ws.map V.str)) = H2 at s2 w2 s12 r2
  refine ⟨_, rfl, pa, _, 3, _, rfl, rfl, SqT.same s12 hP, rfl, ae, rfl, ⟨_, SqT.same s12 hE⟩, fun nl hnl => buS_tup ys id (fun _ => true) (fun H v _ => Tn K H v (envD [])) (fun k h => Tn.keep k h) (SqT.same s12 hE) (List.map_id _).symm (by omega) hnl ?_ ?_⟩
  · rintro j z H' hz s' Yes No yes no
    refine ⟨rfl, tYes_of ?_⟩
    exact ⟨by show 0 ≤ sizeLine; decide, fun t1 ht1 => yes rfl _ _ (Same.new ht1 _) (Tn.new .nil ht1)⟩
  rintro H3 nx s3 hz3 hR3
  rw [Td.filter_all] at hR3
  have f2 : H nl = none := free_of s12 hnl
  have d1 : wl ≠ nl := ne_of_none w2 hnl
  have tnx : TnAll K H3 nx ((p.effects.map fun _ => (some [] : Option Td.Env)).map noteD) := by
    have h := hR3.tn (g := fun _ : V => envD [])
    have e : (ys.map fun _ : V => envD []) = (p.effects.map fun _ => (some [] : Option Td.Env)).map noteD := by
      have : ∀ (l1 : List V) (l2 : List (Str × List Td.Row)), l1.length = l2.length → (l1.map fun _ : V => envD []) = (l2.map fun _ => (some [] : Option Td.Env)).map noteD := by
        intro l1
        induction l1 with
        | nil => intro l2 h; cases l2 with | nil => rfl | cons _ _ => cases h
        | cons a r ih => intro l2 h; cases l2 with | nil => cases h | cons b t => rw [List.map_cons, List.map_cons, List.map_cons, ih t (by simpa using h)]; rfl
      exact this ys p.effects hel
    rw [e] at h
    exact h
  refine ⟨by show 0 ≤ sizeLine; decide, fun ll hll => ⟨by show 0 ≤ sizeLine; decide, fun ql hql => ?_⟩⟩
  have s13 := s12.trans s3
  have t4 := Same.new hll (.lst [])
  have t5 := Same.new hql (.lst [])
  have t45 := t4.trans t5
  have w3 := s3 _ _ w2
  have r3 := s3 _ _ r2
  have d2 := ne_of_none w3 hll
  have d4 := ne_of_none hz3 hll
  have d3 := ne_of_none (t4 _ _ w3) hql
  have d5 := ne_of_none (t4 _ _ hz3) hql
  have e4' : upd (upd H3 ll (.lst [])) ql (.lst []) ll = some (.lst []) := t5 _ _ upd_same
  have e5' : upd (upd H3 ll (.lst [])) ql (.lst []) ql = some (.lst []) := upd_same
  have s15 := s13.trans t45
  have w5 := t45 _ _ w3
  have n5 := t45 _ _ hz3
  have r5 := t45 _ _ r3
  have tx5 := TnAll.keep (TK.of_same t45) tnx
  generalize upd (upd H3 ll (.lst [])) ql (.lst []) = H5 at t45 e4' e5' s15 w5 n5 r5 tx5
  refine ⟨r5, m4 wl nl ll ql, rfl, by show 4 ≤ 15; decide, ?_⟩
  rw [m4_merge]
  refine ⟨_, rfl, _, rfl, md, _, rfl, DPut.k (k := .inr "left") upd_same (small1000 (by show 4 ≤ 1000; decide)), ?_⟩
  rw [upd_upd]
  refine ⟨_, rfl, md, _, rfl, DPut.k (k := .inr "long") upd_same (small1000 (by show 5 ≤ 1000; decide)), ?_⟩
  rw [upd_upd, m4_full]
  have hA := lm_made (K := K) (most := most) r5 ⟨_, rfl⟩ w5 n5 tx5 e4' e5' d1 d2 d3 d4 d5
  have s06 := own_same (o := .dK (mK wl nl ll ql most false)) s15 hmd
  have hn : LNew H md wl nl := ⟨hmd, f1, f2⟩
  dsimp only
  generalize upd H5 md (.dK (mK wl nl ll ql most false)) = H6 at hA s06
  have g0 : (atR ws (p.effects.map fun _ => some [])).Good p := ⟨hl, hw, List.length_map _, (fun l hl => by
    obtain ⟨_, _, z⟩ := List.mem_map.mp hl
    cases z
    exact ⟨Nat.zero_le _, fun c hc => nomatch hc⟩), (fun c hc => nomatch hc), (fun c hc => nomatch hc)⟩
  have n0 : ∀ o ∈ (atR ws (p.effects.map fun _ => some [])).nt, o ≠ none := fun o ho => by
    obtain ⟨_, _, rfl⟩ := List.mem_map.mp ho
    exact fun z => nomatch z
  have p0 : (atR ws (p.effects.map fun _ => some [])).pot most = 16 * most := by show 0 + 16 * (most - 0) = _; omega
  have l0 : (atR ws (p.effects.map fun _ => some [])).lro most = 16 * most := by show 0 + 16 * (most - 0) = _; omega
  have eyl : ((ys.length : Nat) : Int).toNat = p.effects.length := by rw [Int.toNat_natCast, hel]
  refine ⟨_, rfl, pa, _, 3, _, rfl, rfl, SqT.same s06 hP, rfl, .ref ae, _, rfl, .inr ⟨_, SqT.same s06 hE, rfl⟩, ((ys.length : Nat) : Int), rfl, by omega, by omega, for_range (lo := 0) (n := ((ys.length : Nat) : Int).toNat)
    (fun i σ H' => ∃ (v4 : Option V) (s : PM × Bool), σ = [some (.ref pa), some (.ref wa), some (.int (most : Nat)), some (.ref md), v4, none, none] ∧ Same H H' ∧ LmAt K H' md wl nl most s.1 s.2 ∧ s.1.Good p ∧ s.1.rn ≤ most ∧ s.1.pot most ≤ 300 ∧ s.1.lro most ≤ 300 ∧ (∀ o ∈ s.1.nt, o ≠ none) ∧
      lawAll p most 0 p.effects (atR ws (p.effects.map fun _ => some []), false) = lawAll p most i (p.effects.drop i) s)
    ⟨none, _, rfl, s06, hA, g0, Nat.zero_le _, by show (atR ws (p.effects.map fun _ => some [])).pot most ≤ 300; omega, by show (atR ws (p.effects.map fun _ => some [])).lro most ≤ 300; omega, n0, rfl⟩ ?_ ?_⟩
  · rintro i σ H3 hi ⟨v4, s, rfl, s3', hA3, g3, r3', p3, l3, n3, eM⟩
    rw [eyl] at hi
    have hq : p.effects[i]? = some p.effects[i] := List.getElem?_eq_getElem hi
    have e1 : lawAll p most i (p.effects.drop i) s = lawAll p most (i + 1) (p.effects.drop (i + 1)) (lawRun p most i p.effects[i] s) := by rw [List.drop_eq_getElem_cons hi]; rfl
    rw [show (0 : Int) + (i : Nat) = (i : Nat) by omega]
    obtain ⟨y1, y2, y3, y4, y5, y6⟩ := lawRun_keeps (i := i) ok hm (List.mem_of_getElem? hq) g3 r3' n3
    exact ⟨_, rfl, _, rfl, _, rfl, .ref pa, md, wl, nl, i, _, p, m, most, s.1, s.2, H, rfl, hDD, ok, hm, s3', hn, hA3, hq, g3, r3', p3, l3, fun H6 s6 h6 => ⟨_, lawRun p most i p.effects[i] s, rfl, s6, h6, y1, y2, Nat.le_trans y3 p3, Nat.le_trans y4 l3, y6, eM.trans e1⟩⟩
  rintro σ H7 ⟨v4, s, rfl, s7, hA7, g7, r7, p7, l7, n7, eM⟩
  rw [eyl, List.drop_length] at eM
  have eM' : lawAll p most 0 p.effects (atR ws (p.effects.map fun _ => some []), false) = s := eM
  obtain ⟨b1, b2⟩ := beg_rel (p := p) (most := most) (ws := ws)
  rw [eM'] at b1 b2
  refine ⟨_, rfl, _, rfl, _, rfl, .ref pa, md, wl, nl, p, m, most, s.1, s.2, H, rfl, hDD, ok, hm, s7, hn, hA7, hm6, g7, r7, p7, l7, n7, fun v H8 s8 hA8 hv => ?_⟩
  have es : (s.1, s.2) = s := rfl
  rw [es] at hA8 hv
  generalize lawRest p most (16 * most + 1) s = S at b1 b2 hA8 hv
  obtain ⟨ll8, ql8, lx8, qx8, nx8, m1, m2, m3, m4', m5, m6, _⟩ := hA8.ex
  refine ⟨_, rfl, md, _, rfl, dget_at m1 (mK_get ..).2.2.2.2.2, _, rfl, ?_⟩
  cases hb : begF p most ws with
  | none =>
    have hS := b2 hb
    rw [hS]
    refine if_true_of rfl ⟨_, rfl, by show 2 ≤ sizeLine; decide, fun t ht => q (.ref t) _ (s8.trans (Same.new ht _)) ?_⟩
    rw [hb]
    exact .tup (SqT.of upd_same) (.cons (.str _) (.cons (.int _) .nil))
  | some M' =>
    have hS := b1 M' hb
    subst hS
    refine if_false_of rfl ⟨_, rfl, _, rfl, md, _, rfl, dget_at m1 (mK_get ..).2.2.1, ll8, _, rfl, .inl ⟨SqL.of m5, fun t1 ht1 => ⟨by show 2 ≤ sizeLine; decide, fun t2 ht2 => ⟨by show 2 ≤ sizeLine; decide, fun t3 ht3 => ?_⟩⟩⟩⟩
    have z1 := Same.new ht1 (.tup lx8)
    have z2 := Same.new ht2 (.tup [v, .ref t1])
    have z3 := Same.new ht3 (.tup [V.str "told", .ref t2])
    have z := z1.trans (z2.trans z3)
    refine q (.ref t3) _ (s8.trans z) ?_
    rw [hb]
    exact .tup (SqT.of upd_same) (.cons (.str _) (.cons (.tup (SqT.same z3 (SqT.of upd_same)) (.cons (Tn.same z hv) (.cons (.tup (SqT.same (z2.trans z3) (SqT.of upd_same)) (TnAll.keep (TK.of_same z) m6)) .nil))) .nil))
theorem ok_lstep (T : Tops w K mg) (G__law_plain_rest : FnOk P w K mg base CX0 8 T.a__law_plain_rest T.d__law_plain_rest ["_law_parts_here", "_law_m", "_law_bound"] (spLRest K))
    (G__law_plain_write : FnOk P w K mg base CX0 7 T.a__law_plain_write T.d__law_plain_write ["_law_parts_here", "_law_m", "_law_writes"] (spLWrite K))
    (G__law_true : FnOk P w K mg base CX0 5 T.a__law_true T.d__law_true ["_law_parts_here", "_law_words_here"] (spLawTrue K)) :
    FnOk P w K mg base CX0 9 T.a__law_plain_step T.d__law_plain_step ["_law_parts_here", "_law_here", "_law_deed_here", "_law_bound"] (spLStep K) := by
  refine T.F__law_plain_step.ok sc_law_plain_step (fun vs H Q E h => ?_) (fun cdv AR outer s H vs Q E hr h => ?_)
  · obtain ⟨pd, sv, dv, ws, nt, de, p, m, most, rfl, _⟩ := h
    rfl
  obtain ⟨pd, sv, dv, ws, nt, de, p, m, most, rfl, hD, ok, hm, hm1, hm6, hS, hg, hnn, hde, hDv, q⟩ := h
  refine ⟨_, (pss_cons (ps_if (pt_cmpR op_eq (pe_ix ix_tup (pv 2) pe_int (fun _ _ => rfl)) pe_str (nomark _)) (pss_one (ps_ret (pe_tup (pa_cons pe_str (pa_cons (pe_tup (pa_cons (pv 1) (pa_cons (pe_dget (hu_of hr) (pe_call G__law_true (hr.mono (by omega)) rfl T.m__law_true T.F__law_true.kp T.b__law_true .nil pass0 (pa_cons (pv 0) (pa_cons (pe_ix ix_tup (pv 1) pe_int (fun _ _ => rfl)) pa_nil))) (pe_ix ix_tup (pv 2) pe_int (fun _ _ => rfl)) (fun _ _ => rfl)) (pa_cons (pe_tup pa_nil) pa_nil)))) pa_nil))))) pss_nil)
    (pss_cons (ps_set (i := 4) sc_law_plain_step.nd rfl (Or.inl rfl) (pe_disp (pps_cons pe_str (pe_callTy call_list_of rfl T.z_list (by decide +kernel) (pa_cons (pe_ix ix_tup (pv 1) pe_int (fun _ _ => rfl)) pa_nil)) (pps_cons pe_str (pe_callTy call_list_of rfl T.z_list (by decide +kernel) (pa_cons (pe_ix ix_tup (pv 1) pe_int (fun _ _ => rfl)) pa_nil)) (pps_cons pe_str (pe_lst pa_nil) (pps_cons pe_str (pe_lst pa_nil) pps_nil)))) (by rfl) (by rfl) (fun z => by cases z) (by decide)))
    (pss_cons (ps_dput (hu_of hr) (pv 4) pe_str (pv 3) rfl)
    (pss_cons (ps_dput (hu_of hr) (pv 4) pe_str pe_bl rfl)
    (pss_cons (ps_expr (pe_call G__law_plain_write (hr.mono (by omega)) rfl T.m__law_plain_write T.F__law_plain_write.kp T.b__law_plain_write .nil pass0 (pa_cons (pv 0) (pa_cons (pv 4) (pa_cons (pe_ifExp (pt_cmpR op_eq (pe_ix ix_tup (pv 2) pe_int (fun _ _ => rfl)) pe_str (nomark _)) (pe_lst (pa_cons (pe_slice sl_tupA (pv 2) (po_some pe_int) po_none) pa_nil)) (pe_callTy call_list_of rfl T.z_list (by decide +kernel) (pa_cons (pe_ix ix_tup (pv 2) pe_int (fun _ _ => rfl)) pa_nil))) pa_nil)))))
    (pss_cons (ps_set (i := 5) sc_law_plain_step.nd rfl (Or.inl rfl) (pe_call G__law_plain_rest (hr.mono (by omega)) rfl T.m__law_plain_rest T.F__law_plain_rest.kp T.b__law_plain_rest .nil pass0 (pa_cons (pv 0) (pa_cons (pv 4) (pa_cons (pv 3) pa_nil)))))
    (pss_cons (ps_if (pt_val (pe_dget (hu_of hr) (pv 4) pe_str (fun _ _ => rfl))) (pss_one (ps_ret (pe_tup (pa_cons pe_str (pa_cons (pv 3) pa_nil))))) pss_nil)
    (pss_one (ps_ret (pe_tup (pa_cons pe_str (pa_cons (pe_tup (pa_cons (pv 5) (pa_cons pe_non (pa_cons (pe_callTy (T := "tuple") call_tuple_of rfl T.z_tuple (by decide +kernel) (pa_cons (pe_dget (hu_of hr) (pv 4) pe_str (fun _ _ => rfl)) pa_nil)) pa_nil)))) pa_nil)))))))))))), ?_⟩
  have hDD := hD
  obtain ⟨pa, aw, as, vd, ve, rfl, hP, h1, h2, h3, h4⟩ := hD
  obtain ⟨sa, sx, rfl, hSS, hSX⟩ := Tn.tup_inv hS
  obtain ⟨wv, nv, rfl, hWv, hNv⟩ : ∃ wv nv, sx = [wv, nv] ∧ Tn K H wv (strsD ws) ∧ Tn K H nv (.tuple (nt.map noteD)) := by
    cases hSX with
    | cons a b => cases b with | cons c d => cases d; exact ⟨_, _, rfl, a, c⟩
  obtain ⟨wa, wx, rfl, hWS, hWX⟩ := Tn.tup_inv hWv
  obtain rfl := TnAll.strs_inv hWX
  obtain ⟨na, nx, rfl, hNS, hNX⟩ := Tn.tup_inv hNv
  have p0 : (atR ws nt).pot most = 16 * most := by show 0 + 16 * (most - 0) = _; omega
  have l0 : (atR ws nt).lro most = 16 * most := by show 0 + 16 * (most - 0) = _; omega
  cases de with
  | rd c =>
    obtain ⟨da, dx', rfl, hDS, hDX⟩ := Tn.tup_inv hDv
    obtain rfl := TnAll.strs_inv (zs := ["read", c]) hDX
    refine ⟨_, rfl, da, _, 0, _, rfl, rfl, hDS, rfl, rfl, _, rfl, if_true_of (by decide +kernel) ?_⟩
    refine ⟨_, rfl, _, rfl, _, rfl, sa, _, 0, _, rfl, rfl, hSS, rfl, .ref pa, wa, p, m, ws, rfl, Td.DataX.tn hDD, ok, hm, .inr hWS, hg.wl, fun td H1 s1 _ hk => ?_⟩
    refine ⟨_, rfl, da, _, 1, _, rfl, rfl, SqT.same s1 hDS, rfl, td, _, rfl, get_known hk (cells_has hg.wl hde), by show 0 ≤ sizeLine; decide, fun t0 ht0 => ⟨by show 3 ≤ sizeLine; decide, fun t1 ht1 => ⟨by show 2 ≤ sizeLine; decide, fun t2 ht2 => ?_⟩⟩⟩
    have z0 := Same.new ht0 (.tup [])
    have z1 := Same.new ht1 (.tup [V.ref sa, .str (knF (known0 p ws) c), .ref t0])
    have z2 := Same.new ht2 (.tup [V.str "told", .ref t1])
    have z := s1.trans (z0.trans (z1.trans z2))
    exact q (.ref t2) _ z (.tup (SqT.of upd_same) (.cons (.str _) (.cons (.tup (SqT.same z2 (SqT.of upd_same)) (.cons (Tn.same z hS) (.cons (.str _) (.cons (.tup (SqT.same (z1.trans z2) (SqT.of upd_same)) .nil) .nil)))) .nil)))
  | wr s w =>
    obtain ⟨da, dx', rfl, hDS, hDX⟩ := Tn.tup_inv hDv
    obtain rfl := TnAll.strs_inv (zs := ["write", s, w]) hDX
    refine ⟨_, rfl, da, _, 0, _, rfl, rfl, hDS, rfl, rfl, _, rfl, if_false_of (by decide +kernel) ?_⟩
    refine fun md hmd => ?_
    have s1 := Same.new hmd (.dK [])
    have r1 : upd H md (.dK []) md = some (.dK []) := upd_same
    dsimp only
    generalize upd H md (.dK []) = H1 at s1 r1
    refine ⟨_, rfl, sa, _, 0, _, rfl, rfl, SqT.same s1 hSS, rfl, wa, _, rfl, .inr (SqT.same s1 hWS), fun wl hwl => ?_⟩
    have f1 : H wl = none := free_of s1 hwl
    have s2 := Same.new hwl (.lst (ws.map V.str))
    have w2 : upd H1 wl (.lst (ws.map V.str)) wl = some (.lst (ws.map V.str)) := upd_same
    have s12 := s1.trans s2
    have r2 := s2 _ _ r1
    generalize upd H1 wl (.lst (ws.map V.str)) = H2 at s2 w2 s12 r2
    refine ⟨_, rfl, sa, _, 1, _, rfl, rfl, SqT.same s12 hSS, rfl, na, _, rfl, .inr (SqT.same s12 hNS), fun nl hnl => ?_⟩
    have s3 := Same.new hnl (.lst nx)
    have hz3 : upd H2 nl (.lst nx) nl = some (.lst nx) := upd_same
    have f2 : H nl = none := free_of s12 hnl
    have d1 : wl ≠ nl := ne_of_none w2 hnl
    have s13 := s12.trans s3
    have w3 := s3 _ _ w2
    have r3 := s3 _ _ r2
    have tnx : TnAll K (upd H2 nl (.lst nx)) nx (nt.map noteD) := TnAll.keep (TK.of_same s13) hNX
    generalize upd H2 nl (.lst nx) = H3 at s3 hz3 s13 w3 r3 tnx
    refine ⟨by show 0 ≤ sizeLine; decide, fun ll hll => ⟨by show 0 ≤ sizeLine; decide, fun ql hql => ?_⟩⟩
    have t4 := Same.new hll (.lst [])
    have t5 := Same.new hql (.lst [])
    have t45 := t4.trans t5
    have d2 := ne_of_none w3 hll
    have d4 := ne_of_none hz3 hll
    have d3 := ne_of_none (t4 _ _ w3) hql
    have d5 := ne_of_none (t4 _ _ hz3) hql
    have e4' : upd (upd H3 ll (.lst [])) ql (.lst []) ll = some (.lst []) := t5 _ _ upd_same
    have e5' : upd (upd H3 ll (.lst [])) ql (.lst []) ql = some (.lst []) := upd_same
    have s15 := s13.trans t45
    have w5 := t45 _ _ w3
    have n5 := t45 _ _ hz3
    have r5 := t45 _ _ r3
    have tx5 := TnAll.keep (TK.of_same t45) tnx
    generalize upd (upd H3 ll (.lst [])) ql (.lst []) = H5 at t45 e4' e5' s15 w5 n5 r5 tx5
    refine ⟨r5, m4 wl nl ll ql, rfl, by show 4 ≤ 15; decide, ?_⟩
    rw [m4_merge]
    refine ⟨_, rfl, _, rfl, md, _, rfl, DPut.k (k := .inr "left") upd_same (small1000 (by show 4 ≤ 1000; decide)), ?_⟩
    rw [upd_upd]
    refine ⟨_, rfl, md, _, rfl, DPut.k (k := .inr "long") upd_same (small1000 (by show 5 ≤ 1000; decide)), ?_⟩
    rw [upd_upd, m4_full]
    have hA := lm_made (K := K) (most := most) r5 ⟨_, rfl⟩ w5 n5 tx5 e4' e5' d1 d2 d3 d4 d5
    have s06 := own_same (o := .dK (mK wl nl ll ql most false)) s15 hmd
    have hn : LNew H md wl nl := ⟨hmd, f1, f2⟩
    dsimp only
    generalize upd H5 md (.dK (mK wl nl ll ql most false)) = H6 at hA s06
    obtain ⟨_, _, _, _, _, x1, x2, x3, _⟩ := hA.ex
    have hDS6 := SqT.same s06 hDS
    have hci : ∀ c ∈ [(s, w)], c.1 ∈ p.sources ∧ c.2 ∈ p.words := fun c hc => by rw [List.mem_singleton.mp hc]; exact hde
    have eS : stepF p most (atR ws nt) (.wr s w) = (movF p most (atR ws nt) [(s, w)]).map stepD := rfl
    refine ⟨_, rfl, _, rfl, _, rfl, da, _, 0, _, rfl, rfl, hDS6, rfl, rfl, _, rfl, if_true_of (by decide +kernel) ⟨_, rfl, 1, rfl, ?_⟩⟩
    try dsimp only [tNoPart]
    refine sl_all hDS6 fun p1 H7 s7 g7 => ?_
    rw [cut_from1] at g7
    refine ⟨by show 1 ≤ sizeLine; decide, fun wq hwq => ?_⟩
    have t8 := Same.new hwq (.lst [V.ref p1])
    have n1 := Ne.symm (ne_of_none (s7 _ _ x2) hwq)
    have n2 := Ne.symm (ne_of_none (s7 _ _ x3) hwq)
    have tw : TnAll K (upd H7 wq (.lst [V.ref p1])) [V.ref p1] ([(s, w)].map wrD) := .cons (.tup (SqT.same t8 g7) (TnAll.strs [s, w])) .nil
    refine ⟨.ref pa, md, wl, nl, wq, [.ref p1], [(s, w)], p, m, most, atR ws nt, false, H, rfl, hDD, ok, hm, s06.trans (s7.trans t8), hn, hA.same (s7.trans t8), upd_same, n1, n2, tw, by show 1 ≤ 16; decide, hci, hg, Nat.zero_le _, by omega, by omega, hnn, fun H8 s8 hA8 => ?_⟩
    obtain ⟨y1, y2, y3, y4, y5⟩ := lawWrite_keeps (most := most) (wr := [(s, w)]) (s := (atR ws nt, false)) ok hm hci hg (Nat.zero_le _) hnn
    obtain ⟨b1, b2⟩ := mov_rel (p := p) (most := most) (M := atR ws nt) (wr := [(s, w)])
    generalize lawWrite p most [(s, w)] (atR ws nt, false) = sS at y1 y2 y3 y4 y5 b1 b2 hA8
    refine ⟨_, rfl, _, rfl, _, rfl, .ref pa, md, wl, nl, p, m, most, sS.1, sS.2, H, rfl, hDD, ok, hm, s8, hn, hA8, hm6, y1, y2, Nat.le_trans y3 (by show (atR ws nt).pot most ≤ 300; omega), Nat.le_trans y4 (by show (atR ws nt).lro most ≤ 300; omega), y5, fun v H9 s9 hA9 hv => ?_⟩
    have es : (sS.1, sS.2) = sS := rfl
    rw [es] at hA9 hv
    generalize lawRest p most (16 * most + 1) sS = S at b1 b2 hA9 hv
    obtain ⟨ll8, ql8, lx8, qx8, nx8, m1, m2, m3, m4', m5, m6, _⟩ := hA9.ex
    refine ⟨_, rfl, md, _, rfl, dget_at m1 (mK_get ..).2.2.2.2.2, _, rfl, ?_⟩
    cases hb : movF p most (atR ws nt) [(s, w)] with
    | none =>
      have hS := b2 hb
      rw [hS]
      refine if_true_of rfl ⟨_, rfl, by show 2 ≤ sizeLine; decide, fun t ht => q (.ref t) _ (s9.trans (Same.new ht _)) ?_⟩
      rw [eS, hb]
      exact .tup (SqT.of upd_same) (.cons (.str _) (.cons (.int _) .nil))
    | some M' =>
      have hS := b1 M' hb
      subst hS
      refine if_false_of rfl ⟨_, rfl, _, rfl, md, _, rfl, dget_at m1 (mK_get ..).2.2.1, ll8, _, rfl, .inl ⟨SqL.of m5, fun t1 ht1 => ⟨by show 3 ≤ sizeLine; decide, fun t2 ht2 => ⟨by show 2 ≤ sizeLine; decide, fun t3 ht3 => ?_⟩⟩⟩⟩
      have z1 := Same.new ht1 (.tup lx8)
      have z2 := Same.new ht2 (.tup [v, .non, .ref t1])
      have z3 := Same.new ht3 (.tup [V.str "told", .ref t2])
      have z := z1.trans (z2.trans z3)
      refine q (.ref t3) _ (s9.trans z) ?_
      rw [eS, hb]
      exact .tup (SqT.of upd_same) (.cons (.str _) (.cons (.tup (SqT.same z3 (SqT.of upd_same)) (.cons (Tn.same z hv) (.cons .non (.cons (.tup (SqT.same (z2.trans z3) (SqT.of upd_same)) (TnAll.keep (TK.of_same z) m6)) .nil)))) .nil))
  | bt ps =>
    obtain ⟨da, dx', rfl, hDS, hDX⟩ := Tn.tup_inv hDv
    obtain ⟨b1, rfl, hB⟩ : ∃ b1, dx' = [.str "batch", b1] ∧ Tn K H b1 (envD ps) := by
      cases hDX with
      | cons a b => cases a; cases b with | cons c d => cases d; exact ⟨_, rfl, c⟩
    obtain ⟨ba, bx, rfl, hBS, hBX⟩ := Tn.tup_inv hB
    refine ⟨_, rfl, da, _, 0, _, rfl, rfl, hDS, rfl, rfl, _, rfl, if_false_of (by decide +kernel) ?_⟩
    refine fun md hmd => ?_
    have s1 := Same.new hmd (.dK [])
    have r1 : upd H md (.dK []) md = some (.dK []) := upd_same
    dsimp only
    generalize upd H md (.dK []) = H1 at s1 r1
    refine ⟨_, rfl, sa, _, 0, _, rfl, rfl, SqT.same s1 hSS, rfl, wa, _, rfl, .inr (SqT.same s1 hWS), fun wl hwl => ?_⟩
    have f1 : H wl = none := free_of s1 hwl
    have s2 := Same.new hwl (.lst (ws.map V.str))
    have w2 : upd H1 wl (.lst (ws.map V.str)) wl = some (.lst (ws.map V.str)) := upd_same
    have s12 := s1.trans s2
    have r2 := s2 _ _ r1
    generalize upd H1 wl (.lst (ws.map V.str)) = H2 at s2 w2 s12 r2
    refine ⟨_, rfl, sa, _, 1, _, rfl, rfl, SqT.same s12 hSS, rfl, na, _, rfl, .inr (SqT.same s12 hNS), fun nl hnl => ?_⟩
    have s3 := Same.new hnl (.lst nx)
    have hz3 : upd H2 nl (.lst nx) nl = some (.lst nx) := upd_same
    have f2 : H nl = none := free_of s12 hnl
    have d1 : wl ≠ nl := ne_of_none w2 hnl
    have s13 := s12.trans s3
    have w3 := s3 _ _ w2
    have r3 := s3 _ _ r2
    have tnx : TnAll K (upd H2 nl (.lst nx)) nx (nt.map noteD) := TnAll.keep (TK.of_same s13) hNX
    generalize upd H2 nl (.lst nx) = H3 at s3 hz3 s13 w3 r3 tnx
    refine ⟨by show 0 ≤ sizeLine; decide, fun ll hll => ⟨by show 0 ≤ sizeLine; decide, fun ql hql => ?_⟩⟩
    have t4 := Same.new hll (.lst [])
    have t5 := Same.new hql (.lst [])
    have t45 := t4.trans t5
    have d2 := ne_of_none w3 hll
    have d4 := ne_of_none hz3 hll
    have d3 := ne_of_none (t4 _ _ w3) hql
    have d5 := ne_of_none (t4 _ _ hz3) hql
    have e4' : upd (upd H3 ll (.lst [])) ql (.lst []) ll = some (.lst []) := t5 _ _ upd_same
    have e5' : upd (upd H3 ll (.lst [])) ql (.lst []) ql = some (.lst []) := upd_same
    have s15 := s13.trans t45
    have w5 := t45 _ _ w3
    have n5 := t45 _ _ hz3
    have r5 := t45 _ _ r3
    have tx5 := TnAll.keep (TK.of_same t45) tnx
    generalize upd (upd H3 ll (.lst [])) ql (.lst []) = H5 at t45 e4' e5' s15 w5 n5 r5 tx5
    refine ⟨r5, m4 wl nl ll ql, rfl, by show 4 ≤ 15; decide, ?_⟩
    rw [m4_merge]
    refine ⟨_, rfl, _, rfl, md, _, rfl, DPut.k (k := .inr "left") upd_same (small1000 (by show 4 ≤ 1000; decide)), ?_⟩
    rw [upd_upd]
    refine ⟨_, rfl, md, _, rfl, DPut.k (k := .inr "long") upd_same (small1000 (by show 5 ≤ 1000; decide)), ?_⟩
    rw [upd_upd, m4_full]
    have hA := lm_made (K := K) (most := most) r5 ⟨_, rfl⟩ w5 n5 tx5 e4' e5' d1 d2 d3 d4 d5
    have s06 := own_same (o := .dK (mK wl nl ll ql most false)) s15 hmd
    have hn : LNew H md wl nl := ⟨hmd, f1, f2⟩
    dsimp only
    generalize upd H5 md (.dK (mK wl nl ll ql most false)) = H6 at hA s06
    obtain ⟨_, _, _, _, _, x1, x2, x3, _⟩ := hA.ex
    have hDS6 := SqT.same s06 hDS
    obtain ⟨k1, k2, hci, k4⟩ := hde
    have eS : stepF p most (atR ws nt) (.bt ps) = (movF p most (atR ws nt) ps).map stepD := rfl
    refine ⟨_, rfl, _, rfl, _, rfl, da, _, 0, _, rfl, rfl, hDS6, rfl, rfl, _, rfl, if_false_of (by decide +kernel) ⟨_, rfl, da, _, 1, _, rfl, rfl, hDS6, rfl, ba, _, rfl, .inr (SqT.same s06 hBS), fun wq hwq => ?_⟩⟩
    have t8 := Same.new hwq (.lst bx)
    have n1 := Ne.symm (ne_of_none x2 hwq)
    have n2 := Ne.symm (ne_of_none x3 hwq)
    refine ⟨.ref pa, md, wl, nl, wq, bx, ps, p, m, most, atR ws nt, false, H, rfl, hDD, ok, hm, s06.trans t8, hn, hA.same t8, upd_same, n1, n2, TnAll.keep (TK.of_same (s06.trans t8)) hBX, by omega, hci, hg, Nat.zero_le _, by omega, by omega, hnn, fun H8 s8 hA8 => ?_⟩
    obtain ⟨y1, y2, y3, y4, y5⟩ := lawWrite_keeps (most := most) (wr := ps) (s := (atR ws nt, false)) ok hm hci hg (Nat.zero_le _) hnn
    obtain ⟨b1, b2⟩ := mov_rel (p := p) (most := most) (M := atR ws nt) (wr := ps)
    generalize lawWrite p most ps (atR ws nt, false) = sS at y1 y2 y3 y4 y5 b1 b2 hA8
    refine ⟨_, rfl, _, rfl, _, rfl, .ref pa, md, wl, nl, p, m, most, sS.1, sS.2, H, rfl, hDD, ok, hm, s8, hn, hA8, hm6, y1, y2, Nat.le_trans y3 (by show (atR ws nt).pot most ≤ 300; omega), Nat.le_trans y4 (by show (atR ws nt).lro most ≤ 300; omega), y5, fun v H9 s9 hA9 hv => ?_⟩
    have es : (sS.1, sS.2) = sS := rfl
    rw [es] at hA9 hv
    generalize lawRest p most (16 * most + 1) sS = S at b1 b2 hA9 hv
    obtain ⟨ll8, ql8, lx8, qx8, nx8, m1, m2, m3, m4', m5, m6, _⟩ := hA9.ex
    refine ⟨_, rfl, md, _, rfl, dget_at m1 (mK_get ..).2.2.2.2.2, _, rfl, ?_⟩
    cases hb : movF p most (atR ws nt) ps with
    | none =>
      have hS := b2 hb
      rw [hS]
      refine if_true_of rfl ⟨_, rfl, by show 2 ≤ sizeLine; decide, fun t ht => q (.ref t) _ (s9.trans (Same.new ht _)) ?_⟩
      rw [eS, hb]
      exact .tup (SqT.of upd_same) (.cons (.str _) (.cons (.int _) .nil))
    | some M' =>
      have hS := b1 M' hb
      subst hS
      refine if_false_of rfl ⟨_, rfl, _, rfl, md, _, rfl, dget_at m1 (mK_get ..).2.2.1, ll8, _, rfl, .inl ⟨SqL.of m5, fun t1 ht1 => ⟨by show 3 ≤ sizeLine; decide, fun t2 ht2 => ⟨by show 2 ≤ sizeLine; decide, fun t3 ht3 => ?_⟩⟩⟩⟩
      have z1 := Same.new ht1 (.tup lx8)
      have z2 := Same.new ht2 (.tup [v, .non, .ref t1])
      have z3 := Same.new ht3 (.tup [V.str "told", .ref t2])
      have z := z1.trans (z2.trans z3)
      refine q (.ref t3) _ (s9.trans z) ?_
      rw [eS, hb]
      exact .tup (SqT.of upd_same) (.cons (.str _) (.cons (.tup (SqT.same z3 (SqT.of upd_same)) (.cons (Tn.same z hv) (.cons .non (.cons (.tup (SqT.same (z2.trans z3) (SqT.of upd_same)) (TnAll.keep (TK.of_same z) m6)) .nil)))) .nil))
end
end K68
namespace K68
open PySem PySem.Spec PyProof.Rows L2 Td
theorem at_word {ws : List Str} {r : Int} (r0 : 0 ≤ r) (h : r.toNat < ws.length) : atI (ws.map V.str) r = some (.str ws[r.toNat]) := by
  have e : atI (ws.map V.str) ((r.toNat : Nat) : Int) = some (.str ws[r.toNat]) := atI_nat (by simp [h])
  rwa [Int.toNat_of_nonneg r0] at e
def spLawWords (K : PySem.W.Frag) : Sp := fun vs H Q _ => ∃ (st sc : Addr) (v : V) (p : PP) (m : Nat), vs = [.ref st, v] ∧ StOk H st sc ∧ Tn K H v p.data ∧ p.Ok m ∧
  ∀ (wa : Addr) (ws : List Str) H', Keep st H H' → StOk H' st sc → SqT K H' wa (ws.map V.str) → ws.length = p.sources.length → (∀ z ∈ ws, z ∈ p.words) → Q (.ref wa) H'
section
variable {P : Program} {w : World} {K : PySem.W.Frag} {mg : Str → Option Value} {base : Heap}
theorem ok_law_words (T : Tops w K mg) (G__law_draw : FnOk P w K mg base CX0 1 T.a__law_draw T.d__law_draw ["_law_state_here", "_law_many_here"] spDraw) :
    FnOk P w K mg base CX0 2 T.a__law_words T.d__law_words ["_law_state_here", "_law_parts_here"] (spLawWords K) := by
  refine T.F__law_words.ok sc_law_words (fun vs H Q E h => ?_) (fun cdv A outer s H vs Q E hr h => ?_)
  · obtain ⟨st, sc, v, p, m, rfl, _⟩ := h
    rfl
  obtain ⟨st, sc, v, p, m, rfl, hst, hD, ok, q⟩ := h
  obtain ⟨pa, aw, as, vd, ve, rfl, hP, h1, h2, h3, h4⟩ := parts_at hD
  have s4 := ok.s4
  have w2 := ok.w2
  have w4 := ok.w4
  refine ⟨_, (pss_one (ps_ret (pe_callTy (T := "tuple") call_tuple_of rfl T.z_tuple (by decide +kernel) (pa_cons (pe_lc (own := [("_law_source", 2)]) (g := gName 2) (tt := tYes) (te := tOp (rIxT K) (tOp (rIxT K) (tVar 1) (tC (.int 0))) (tCall spDraw [] E0 (tCons (tVar 0) (tCons (tCB (fun xs H Q => ∃ x n, xs = [x] ∧ LenV K x H n ∧ Q (V.int (n : Nat)) H) (tCons (tOp (rIxT K) (tVar 1) (tC (.int 0))) tNil)) tNil)))) rfl sc_law_words.nd (pi_tup (pe_ix ix_tup (pv 1) pe_int (fun _ _ => rfl))) (blkOk_by (own := [("_law_source", 2)]) (N := N_law_words) (sc := defScope s_law_words) (by decide +kernel)) (fun _ _ _ _ _ => (pg_name (i := 2) sc_law_words.nd rfl (Or.inl rfl))) (fun _ _ _ _ _ => pts_nil) (fun _ _ _ _ _ => (pe_ix ix_tup (pe_ix ix_tup (pv 1) pe_int (fun _ _ => rfl)) (pe_call G__law_draw (hr.mono (by omega)) rfl T.m__law_draw T.F__law_draw.kp T.b__law_draw .nil pass0 (pa_cons (pv 0) (pa_cons (pe_callB call_len rfl T.z_len PySem.boot_len (pa_cons (pe_ix ix_tup (pv 1) pe_int (fun _ _ => rfl)) pa_nil)) pa_nil))) (fun _ _ => rfl)))) pa_nil)))), ?_⟩
  refine ⟨_, rfl, pa, _, 1, _, rfl, rfl, hP, rfl, as, rfl, ⟨_, h2⟩, fun D hD0 => lc_tup (K := K) (a := as) (xs := p.sources.map V.str) (fun i H' => ∃ zs : List Str, Keep st H H' ∧ StOk H' st sc ∧ H' D = some (.lst (zs.map V.str)) ∧ zs.length = i ∧ ∀ z ∈ zs, z ∈ p.words)
    ⟨[], Keep.new hD0, hst.new hD0, upd_same, rfl, fun z h => by cases h⟩ (fun i H' _ ⟨_, k, o, _⟩ => SqT.tk (TK.of_keep k hst.chg) h2) ?_ ?_⟩
  · rintro i x H' hx ⟨zs, k, o, hb, hzl, hin⟩
    have hi : i < p.sources.length := by have := (List.getElem?_eq_some_iff.mp hx).1; rwa [List.length_map] at this
    have tk := TK.of_keep k hst.chg
    refine ⟨rfl, tYes_of ?_⟩
    refine ⟨_, rfl, pa, _, 0, _, rfl, rfl, SqT.tk tk hP, rfl, _, rfl, _, rfl, pa, _, 0, _, rfl, rfl, SqT.tk tk hP, rfl, .ref aw, _, rfl, .inr ⟨_, SqT.tk tk h1, rfl⟩, st, sc, _, rfl, by rw [List.length_map]; omega, by rw [List.length_map]; omega, o, fun r H2 r0 r1 k2 o2 _ => ?_⟩
    rw [List.length_map] at r1
    have hr' : r.toNat < p.words.length := by omega
    have er : r = (r.toNat : Nat) := (Int.toNat_of_nonneg r0).symm
    have tk2 := tk.trans (TK.of_keep k2 o.chg)
    have nD := hst.ne hD0
    refine ⟨aw, _, r, .str p.words[r.toNat], rfl, rfl, SqT.tk tk2 h1, at_word r0 hr', ?_⟩
    have hb2 := k2 _ _ nD.1 hb
    refine ⟨_, hb2, small1000 (by rw [List.length_map]; omega), zs ++ [p.words[r.toNat]], (k.trans k2).own hD0, o2.other nD.1 nD.2, by rw [upd_same, List.map_append]; rfl, by rw [List.length_append, hzl]; rfl, fun z hz => ?_⟩
    rcases List.mem_append.mp hz with h | h
    · exact hin z h
    · rw [List.mem_singleton.mp h]; exact List.getElem_mem _
  · rintro H' ⟨zs, k, o, hb, hzl, hin⟩
    rw [List.length_map] at hzl
    refine ⟨D, _, rfl, .inl ⟨SqL.of hb, fun wa hwa => ?_⟩⟩
    exact q wa zs _ (k.trans (Keep.new hwa)) (o.new hwa) (SqT.of upd_same) hzl hin
end
def spMade (K : PySem.W.Frag) (CP : Addr) : Sp := fun vs H Q _ => ∃ (v : V) (p : PP) (m : Nat), vs = [v] ∧ Tn K H v p.data ∧ p.Ok m ∧ m ≤ 16 ∧ ∀ (x : Addr) H', Same H H' → H x = none → ProgAt K H' CP x p → Q (.ref x) H'
section
variable {P : Program} {w : World} {K : PySem.W.Frag} {mg : Str → Option Value} {base : Heap}
theorem ok_law_program (T : Tops w K mg) (G_Program_init : FnOk P w K mg base CX0 10 T.a_Program_init T.d_Program_init ["self", "words", "sources", "derived", "effects"] (spProgram K T.c_Program)) :
    FnOk P w K mg base CX0 12 T.a__law_program T.d__law_program ["_law_parts_here"] (spMade K T.c_Program) := by
  refine T.F__law_program.ok sc_law_program (fun vs H Q E h => ?_) (fun cdv A outer s H vs Q E hr h => ?_)
  · obtain ⟨v, p, m, rfl, _⟩ := h
    rfl
  obtain ⟨v, p, m, rfl, hD, ok, hm, q⟩ := h
  obtain ⟨pa, aw, as, vd, ve, rfl, hP, h1, h2, h3, h4⟩ := parts_at hD
  refine ⟨_, (pss_one (ps_ret (pe_make T.k_Program G_Program_init (hr.mono (by omega)) rfl T.m_Program T.b_Program_init .nil pass0 (pa_cons (pe_ix ix_tup (pv 0) pe_int (fun _ _ => rfl)) (pa_cons (pe_ix ix_tup (pv 0) pe_int (fun _ _ => rfl)) (pa_cons (pe_ix ix_tup (pv 0) pe_int (fun _ _ => rfl)) (pa_cons (pe_ix ix_tup (pv 0) pe_int (fun _ _ => rfl)) pa_nil))))))), ?_⟩
  refine ⟨_, rfl, pa, _, 0, _, rfl, rfl, hP, rfl, _, rfl, pa, _, 1, _, rfl, rfl, hP, rfl, _, rfl, pa, _, 2, _, rfl, rfl, hP, rfl, _, rfl, pa, _, 3, _, rfl, rfl, hP, rfl, fun x dx hx hdx hne => ?_⟩
  have sx : Same H (upd (upd H dx (.own x)) x (.ins T.c_Program dx [])) := (Same.new hdx _).trans (Same.new (by rw [upd_ne (Ne.symm hne)]; exact hx) _)
  refine ⟨x, dx, aw, as, vd, ve, p, m, rfl, upd_same, SqT.same sx h1, SqT.same sx h2, Tn.same sx h3, Tn.same sx h4, ok, hm, fun dn en H5 s5 hdn hen => ⟨rfl, ?_⟩⟩
  have s46 : Same H (upd H5 x (.ins T.c_Program dx (progF aw as vd ve dn en))) := own_same (sx.trans s5) hx
  exact q x _ s46 hx ⟨dx, aw, as, vd, ve, ⟨dn, en, upd_same, hdn, hen⟩, SqT.same s46 h1, SqT.same s46 h2, Tn.same s46 h3, Tn.same s46 h4⟩
end
theorem cut_butlast (xs : List V) (h : 1 ≤ xs.length) : cutV xs none (some (-1)) = xs.take (xs.length - 1) := by
  unfold cutV
  rw [HT.sIx_none, List.drop_zero, Nat.sub_zero]
  congr 1
  unfold HT.sIx
  first
    | omega
    | (simp; omega)
def wrong7 (ws : List Str) : List PyData := [.list (ws.map PyData.str), .tuple ((ws.map PyData.str).drop 1), .tuple (ws.map PyData.str ++ [.str (ws.headD "")]), .none, .int 0, .tuple ([PyData.str "Other"] ++ (ws.map PyData.str).drop 1), .tuple ((ws.map PyData.str).take (ws.length - 1) ++ [.none])]
theorem other_no {zs : List Str} (h : ∀ z ∈ zs, isNm z = true) : ("Other" : Str) ∉ zs := fun hm => by
  have h1 := h _ hm
  have h2 : isNm ("Other" : Str) = false := by decide +kernel
  rw [h2] at h1
  cases h1
theorem wrong7_bad {p : PP} {m : Nat} {ws : List Str} (ok : p.Ok m) (hl : ws.length = p.sources.length) (hw : ∀ z ∈ ws, z ∈ p.words) : ∀ d ∈ wrong7 ws, SeqAt.shaped d = true ∧ badD p d = true ∧ (∀ ds, d = .tuple ds → ds.length ≤ 100 ∧ ∀ x ∈ ds, SeqAt.shaped x = true) ∧ d.depth ≤ 8 := by
  have s1 := ok.s1
  have s4 := ok.s4
  have wn : ∀ z ∈ ws, isNm z = true := fun z hz => ok.wn.good z (hw z hz)
  have smz : ∀ x ∈ ws.map PyData.str, smB 3 x = true := fun x hx => by
    obtain ⟨z, hz, rfl⟩ := List.mem_map.mp hx
    exact sm_of_nm (wn z hz)
  have smd : ∀ x ∈ (ws.map PyData.str).drop 1, smB 3 x = true := fun x hx => smz x (List.mem_of_mem_drop hx)
  have smt : ∀ x ∈ (ws.map PyData.str).take (ws.length - 1), smB 3 x = true := fun x hx => smz x (List.mem_of_mem_take hx)
  have hw0 : ws.headD "" ∈ ws := by
    cases ws with
    | nil => rw [← hl] at s1; simp at s1
    | cons z r => exact List.mem_cons_self
  have key : ∀ d, smB 4 d = true → badD p d = true → SeqAt.shaped d = true ∧ badD p d = true ∧ (∀ ds, d = .tuple ds → ds.length ≤ 100 ∧ ∀ x ∈ ds, SeqAt.shaped x = true) ∧ d.depth ≤ 8 := fun d hs hb =>
    ⟨shaped_sm hs (by decide), hb, fun ds e => by
      subst e
      obtain ⟨a, b⟩ := sm_tup hs
      exact ⟨a, fun x hx => shaped_sm (b x hx) (by decide)⟩, by have := (sm_lay 4 d hs).2; omega⟩
  have lmap : (ws.map PyData.str).length = ws.length := List.length_map _
  have badL : ∀ ds : List PyData, ds.length ≠ p.sources.length → badD p (.tuple ds) = true := fun ds hn => by
    show (!(decide (ds.length = p.sources.length) && _)) = true
    rw [decide_eq_false hn]
    rfl
  have badX : ∀ (ds : List PyData) (x : PyData), x ∈ ds → ((p.words.map PyData.str).any fun z => PyData.eqv z x) = false → badD p (.tuple ds) = true := fun ds x hx hn => by
    show (!(decide (ds.length = p.sources.length) && ds.all fun x => (p.words.map PyData.str).any fun z => PyData.eqv z x)) = true
    have : (ds.all fun x => (p.words.map PyData.str).any fun z => PyData.eqv z x) = false := List.all_eq_false.mpr ⟨x, hx, by rw [hn]; decide⟩
    rw [this, Bool.and_false]
    rfl
  intro d hd
  unfold wrong7 at hd
  simp only [List.mem_cons, List.not_mem_nil, or_false] at hd
  rcases hd with rfl | rfl | rfl | rfl | rfl | rfl | rfl
  · exact key _ (sm_of_list (by rw [lmap]; omega) smz) rfl
  · exact key _ (sm_of_tup (by rw [List.length_drop, lmap]; omega) smd) (badL _ (by rw [List.length_drop, lmap]; omega))
  · refine key _ (sm_of_tup (by rw [List.length_append, lmap]; show ws.length + 1 ≤ 100; omega) fun x hx => ?_) (badL _ (by rw [List.length_append, lmap]; show ws.length + 1 ≠ _; omega))
    rcases List.mem_append.mp hx with h | h
    · exact smz x h
    · rw [List.mem_singleton.mp h]; exact sm_of_nm (wn _ hw0)
  · exact key _ rfl rfl
  · exact key _ rfl rfl
  · refine key _ (sm_of_tup (by rw [List.length_append, List.length_drop, lmap]; show 1 + (ws.length - 1) ≤ 100; omega) fun x hx => ?_) (badX _ (.str "Other") (List.mem_append_left _ (List.mem_singleton.mpr rfl)) ?_)
    · rcases List.mem_append.mp hx with h | h
      · rw [List.mem_singleton.mp h]; exact sm_of_str (by decide +kernel) (by decide +kernel)
      · exact smd x h
    · rw [any_strs]
      exact decide_eq_false (other_no ok.wn.good)
  · refine key _ (sm_of_tup (by rw [List.length_append, List.length_take, lmap]; show min (ws.length - 1) ws.length + 1 ≤ 100; omega) fun x hx => ?_) (badX _ .none (List.mem_append_right _ (List.mem_singleton.mpr rfl)) ?_)
    · rcases List.mem_append.mp hx with h | h
      · exact smt x h
      · rw [List.mem_singleton.mp h]; rfl
    · rw [any_strs]
      rfl
/-- other words than the sources' -/
def spWrong (K : PySem.W.Frag) : Sp := fun vs H Q _ => ∃ (st sc wa : Addr) (p : PP) (m : Nat) (ws : List Str), vs = [.ref st, .ref wa] ∧ StOk H st sc ∧ SqT K H wa (ws.map V.str) ∧ p.Ok m ∧ ws.length = p.sources.length ∧ (∀ z ∈ ws, z ∈ p.words) ∧
  ∀ (v : V) (d : PyData) H', Keep st H H' → StOk H' st sc → BadW K H' p v d → Q v H'
section
variable {P : Program} {w : World} {K : PySem.W.Frag} {mg : Str → Option Value} {base : Heap}
theorem ok_wrong (T : Tops w K mg) (G__law_draw : FnOk P w K mg base CX0 1 T.a__law_draw T.d__law_draw ["_law_state_here", "_law_many_here"] spDraw) :
    FnOk P w K mg base CX0 2 T.a__law_wrong_words T.d__law_wrong_words ["_law_state_here", "_law_words_here"] (spWrong K) := by
  refine T.F__law_wrong_words.ok sc_law_wrong_words (fun vs H Q E h => ?_) (fun cdv AR outer s H vs Q E hr h => ?_)
  · obtain ⟨st, sc, wa, p, m, ws, rfl, _⟩ := h
    rfl
  obtain ⟨st, sc, wa, p, m, ws, rfl, hst, hW, ok, hl, hw, q⟩ := h
  refine ⟨_, (pss_cons (ps_set (i := 2) sc_law_wrong_words.nd rfl (Or.inl rfl) (pe_tup (pa_cons (pe_callTy call_list_of rfl T.z_list (by decide +kernel) (pa_cons (pv 1) pa_nil)) (pa_cons (pe_slice sl_tupA (pv 1) (po_some pe_int) po_none) (pa_cons (pe_op op_catA (pv 1) (pe_tup (pa_cons (pe_ix ix_tup (pv 1) pe_int (fun _ _ => rfl)) pa_nil))) (pa_cons pe_non (pa_cons pe_int (pa_cons (pe_op op_catA (pe_tup (pa_cons pe_str pa_nil)) (pe_slice sl_tupA (pv 1) (po_some pe_int) po_none)) (pa_cons (pe_op op_catA (pe_slice sl_tupA (pv 1) po_none (po_some (pe_un un_neg pe_int))) (pe_tup (pa_cons pe_non pa_nil))) pa_nil)))))))))
    (pss_one (ps_ret (pe_ix ix_tup (pv 2) (pe_call G__law_draw (hr.mono (by omega)) rfl T.m__law_draw T.F__law_draw.kp T.b__law_draw .nil pass0 (pa_cons (pv 0) (pa_cons pe_int pa_nil))) (fun _ _ => rfl))))), ?_⟩
  have s1 := ok.s1
  have s4 := ok.s4
  have wl : (ws.map V.str).length = ws.length := List.length_map _
  have w0 : (ws.map V.str)[0]? = some (.str (ws.headD "")) := by
    cases ws with
    | nil => rw [← hl] at s1; simp at s1
    | cons z r => rfl
  refine ⟨_, rfl, wa, _, rfl, .inr hW, fun l0 hl0 => ?_⟩
  have c1 := Same.new hl0 (.lst (ws.map V.str))
  have e0 : upd H l0 (.lst (ws.map V.str)) l0 = some (.lst (ws.map V.str)) := upd_same
  have n0 := (hst.ne hl0).1
  have hW1 := SqT.same c1 hW
  have o1 := hst.new (o := .lst (ws.map V.str)) hl0
  generalize upd H l0 (.lst (ws.map V.str)) = H1 at c1 e0 hW1 o1
  refine ⟨_, rfl, 1, rfl, ?_⟩
  try dsimp only [tNoPart]
  refine sl_all hW1 fun p1 H2 c2 g1 => ?_
  have hW2 := SqT.same c2 hW1
  refine ⟨_, rfl, _, rfl, wa, _, 0, _, rfl, rfl, hW2, atI_nat (j := 0) w0, by show 1 ≤ sizeLine; decide, fun t2 ht2 => ?_⟩
  have c3 := Same.new ht2 (.tup [V.str (ws.headD "")])
  refine cat_all (SqT.same c3 hW2) (SqT.of upd_same) (Nat.le_of_lt (small1000 (by rw [wl]; show ws.length + 1 ≤ 1000; omega))) fun p2 H4 c4 g2 => ?_
  have hW4 := SqT.same (c3.trans c4) hW2
  refine ⟨by show 1 ≤ sizeLine; decide, fun t5 ht5 => ⟨_, rfl, 1, rfl, ?_⟩⟩
  try dsimp only [tNoPart]
  have c5 := Same.new ht5 (.tup [V.str "Other"])
  have q5 : SqT K (upd H4 t5 (.tup [V.str "Other"])) t5 [V.str "Other"] := SqT.of upd_same
  have hW5 := SqT.same c5 hW4
  refine sl_all hW5 fun p5 H6 c6 g5 => ?_
  refine cat_all (SqT.same c6 q5) g5 (Nat.le_of_lt (small1000 (by have := cutV_length (ws.map V.str) (some 1) none; rw [wl] at this; show 1 + _ ≤ 1000; omega))) fun p6 H7 c7 g6 => ?_
  have hW7 := SqT.same (c6.trans c7) hW5
  refine ⟨_, rfl, 1, rfl, -1, rfl, ?_⟩
  try dsimp only [tNoPart]
  refine sl_all hW7 fun p7 H8 c8 g7 => ?_
  refine ⟨by show 1 ≤ sizeLine; decide, fun t8 ht8 => ?_⟩
  have c9 := Same.new ht8 (.tup [V.non])
  refine cat_all (SqT.same c9 g7) (SqT.of upd_same) (Nat.le_of_lt (small1000 (by have := cutV_length (ws.map V.str) none (some (-1)); rw [wl] at this; show _ + 1 ≤ 1000; omega))) fun p8 H10 c10 g8 => ?_
  refine ⟨by show 7 ≤ sizeLine; decide, fun tw htw => ?_⟩
  have c11 := Same.new htw (.tup [V.ref l0, .ref p1, .ref p2, .non, .int 0, .ref p6, .ref p8])
  have gw : SqT K (upd H10 tw (.tup [V.ref l0, .ref p1, .ref p2, .non, .int 0, .ref p6, .ref p8])) tw [V.ref l0, .ref p1, .ref p2, .non, .int 0, .ref p6, .ref p8] := SqT.of upd_same
  have a2 := c2.trans (c3.trans (c4.trans (c5.trans (c6.trans (c7.trans (c8.trans (c9.trans (c10.trans c11))))))))
  have e0' := a2 _ _ e0
  have o11 := stGo o1 a2
  have g1' := SqT.same (c3.trans (c4.trans (c5.trans (c6.trans (c7.trans (c8.trans (c9.trans (c10.trans c11)))))))) g1
  have g2' := SqT.same (c5.trans (c6.trans (c7.trans (c8.trans (c9.trans (c10.trans c11)))))) g2
  have g6' := SqT.same (c8.trans (c9.trans (c10.trans c11))) g6
  have g8' := SqT.same c11 g8
  have sAll := c1.trans a2
  generalize upd H10 tw (.tup [V.ref l0, .ref p1, .ref p2, .non, .int 0, .ref p6, .ref p8]) = H11 at gw e0' o11 g1' g2' g6' g8' sAll
  refine ⟨_, rfl, _, rfl, st, sc, 7, rfl, by decide, by decide, o11, fun r H12 r0 r1 k2 o2 _ => ?_⟩
  have tk2 := TK.of_keep k2 o11.chg
  rw [cut_from1] at g1' g6'
  rw [cut_butlast _ (by rw [wl]; omega), wl] at g8'
  have hall : DpAll K H12 [V.ref l0, .ref p1, .ref p2, .non, .int 0, .ref p6, .ref p8] (wrong7 ws) := by
    have x1 : DpAll K H12 ((ws.map V.str).drop 1) ((ws.map PyData.str).drop 1) := by rw [← List.map_drop, ← List.map_drop]; exact DpAll.strs _
    have x2 : DpAll K H12 ((ws.map V.str).take (ws.length - 1)) ((ws.map PyData.str).take (ws.length - 1)) := by rw [← List.map_take, ← List.map_take]; exact DpAll.strs _
    exact .cons (.lst (SqL.of (k2 _ _ n0 e0')) (DpAll.strs _)) (.cons (.tup (SqT.tk tk2 g1') x1) (.cons (.tup (SqT.tk tk2 g2') (DpAll.append (DpAll.strs _) (.cons (.str _) .nil))) (.cons .non (.cons (.int 0) (.cons (.tup (SqT.tk tk2 g6') (.cons (.str _) x1)) (.cons (.tup (SqT.tk tk2 g8') (DpAll.append x2 (.cons .non .nil))) .nil))))))
  obtain ⟨j, rfl⟩ : ∃ j : Nat, r = (j : Nat) := ⟨r.toNat, by omega⟩
  have hj : j < 7 := by omega
  have hx : ([V.ref l0, .ref p1, .ref p2, .non, .int 0, .ref p6, .ref p8] : List V)[j]? = some (([V.ref l0, .ref p1, .ref p2, .non, .int 0, .ref p6, .ref p8] : List V)[j]'hj) := List.getElem?_eq_getElem hj
  obtain ⟨d, hd, hv⟩ := DpAll.get hall hx
  obtain ⟨b1, b2, b3, b4⟩ := wrong7_bad ok hl hw d (List.mem_of_getElem? hd)
  refine ⟨tw, _, (j : Nat), _, rfl, rfl, SqT.tk tk2 gw, atI_nat hx, ?_⟩
  exact q _ d _ ((K68.Keep.of_same sAll).trans k2) o2 ⟨hv, b1, b2, b3, b4⟩
end
end K68
namespace K68
open PySem PySem.Spec PyProof.Rows L2 Td
theorem lie {Q : Prop} (h : true = false) : Q := by cases h
theorem lie' {Q : Prop} (h : false = true) : Q := by cases h
/-- what the law makes of a start -/
def spPStart (K : PySem.W.Frag) (CP : Addr) : Sp := fun vs H Q _ => ∃ (pa : Addr) (wv : V) (p : PP) (m most : Nat), vs = [.ref pa, wv, .int (most : Nat)] ∧ ProgAt K H CP pa p ∧ p.Ok m ∧ m ≤ 16 ∧ 1 ≤ most ∧ most ≤ 6 ∧
  ((∃ (wa : Addr) (ws : List Str), wv = .ref wa ∧ SqT K H wa (ws.map V.str) ∧ ws.length = p.sources.length ∧ (∀ z ∈ ws, z ∈ p.words) ∧ ∀ v H', Same H H' → Tn K H' v (ansD most ((begF p most ws).map begD)) → Q v H') ∨
   (∃ d : PyData, BadW K H p wv d ∧ ∀ t H', Same H H' → SqT K H' t [.str "start", wv] → Q (.ref t) H'))
def spPDeed (K : PySem.W.Frag) (CP : Addr) : Sp := fun vs H Q _ => ∃ (pa : Addr) (sv dv : V) (p : PP) (m most : Nat), vs = [.ref pa, sv, dv, .int (most : Nat)] ∧ ProgAt K H CP pa p ∧ p.Ok m ∧ m ≤ 16 ∧ 1 ≤ most ∧ most ≤ 6 ∧
  ((∃ (d : PyData) (k : Nat), Dp K H dv d ∧ smB k d = true ∧ k ≤ 50 ∧ isDeedD p d = false ∧ ∀ t H', Same H H' → SqT K H' t [.str "deed", dv] → Q (.ref t) H') ∨
   (∃ (ws : List Str) (nt : List (Option Td.Env)) (de : De), Tn K H sv (restD (atR ws nt)) ∧ (atR ws nt).Good p ∧ de.Of p ∧ Tn K H dv de.data ∧ ∀ v H', Same H H' → Tn K H' v (ansD most (stepF p most (atR ws nt) de)) → Q v H'))
section
variable {P : Program} {w : World} {K : PySem.W.Frag} {mg : Str → Option Value} {base : Heap}
theorem ok_pstart (T : Tops w K mg) (G_plain_begin : FnOk P w K mg base (L2.CX P w) 13 T.a_plain_begin T.d_plain_begin ["program", "words", "most"] (spBegin K T.c_Program T.c_InvalidStart T.c_TooManyRuns)) :
    FnOk P w K mg base CX0 14 T.a__law_plain_start T.d__law_plain_start ["_law_program_here", "_law_words_here", "_law_bound"] (spPStart K T.c_Program) := by
  refine T.F__law_plain_start.ok sc_law_plain_start (fun vs H Q E h => ?_) (fun cdv AR outer s H vs Q E hr h => ?_)
  · obtain ⟨pa, wv, p, m, most, rfl, _⟩ := h
    rfl
  obtain ⟨pa, wv, p, m, most, rfl, hP, ok, hm, hm1, hm6, h⟩ := h
  refine ⟨_, (pss_cons (ps_set (i := 3) sc_law_plain_start.nd rfl (Or.inl rfl) (pe_tup (pa_cons pe_str (pa_cons pe_non pa_nil))))
    (pss_cons (ps_try_asL rfl rfl sc_law_plain_start.nd takes0 (fun W pn xe tk _ => (pss_one (ps_set (i := 3) sc_law_plain_start.nd rfl (Or.inl rfl) (pe_tup (pa_cons pe_str (pa_cons (pe_callNS G_plain_begin (hr.mono (by omega)) rfl T.m_plain_begin T.F_plain_begin.kp T.kb_plain_begin (fun σ => passAt tk σ) (pa_cons (pv 0) (pa_cons (pv 1) pa_nil)) (pk_cons (pv 2) pk_nil)) pa_nil)))))) (Clauses.more (i := 4) rfl rfl ⟨rfl, by decide, .inl T.m_TooManyRuns⟩ (fun a oe cls d pn hz hf => (pss_one (ps_set (i := 3) sc_law_plain_start.nd rfl (Or.inl rfl) (pe_tup (pa_cons pe_str (pa_cons (pe_xf ⟨T.xa_TooManyRuns, T.xg_TooManyRuns, T.x_TooManyRuns.exC, T.xh_TooManyRuns⟩ T.n_TooManyRuns_most hz hf (pv 4)) pa_nil)))))) (Clauses.more (i := 4) rfl rfl ⟨rfl, by decide, .inl T.m_InvalidStart⟩ (fun a oe cls d pn hz hf => (pss_one (ps_set (i := 3) sc_law_plain_start.nd rfl (Or.inl rfl) (pe_tup (pa_cons pe_str (pa_cons (pe_xf ⟨T.xa_InvalidStart, T.xg_InvalidStart, T.x_InvalidStart.exC, T.xh_InvalidStart⟩ T.n_InvalidStart_words hz hf (pv 4)) pa_nil)))))) Clauses.none)))
    (pss_one (ps_ret (pv 3))))), ?_⟩
  refine ⟨by show 2 ≤ sizeLine; decide, fun t0 ht0 => ?_⟩
  have s0 : Same H (upd H t0 (.tup [.str "none", .non])) := Same.new ht0 _
  dsimp only
  generalize upd H t0 (.tup [.str "none", .non]) = H1 at s0
  rcases h with ⟨wa, ws, rfl, hW, hl, hw, q⟩ | ⟨d, hB, q⟩
  · refine ⟨_, rfl, _, rfl, _, rfl, ⟨rfl, rfl⟩, pa, _, p, m, most, rfl, hP.same s0, ok, hm, hm1, hm6, .inl ⟨wa, ws, rfl, SqT.same s0 hW, hl, hw, fun M' e v H2 s2 hv => ⟨by show 2 ≤ sizeLine; decide, fun t ht => ⟨_, rfl, ?_⟩⟩, fun e dd H2 s2 hd he => ?_⟩⟩
    · refine q (.ref t) _ ((s0.trans s2).trans (Same.new ht _)) ?_
      rw [e]
      exact .tup (SqT.of upd_same) (.cons (.str _) (.cons (Tn.same (Same.new ht _) hv) .nil))
    · refine ⟨true, T.xe_TooManyRuns, fun _ a ha => ?_, lie⟩
      refine ⟨_, rfl, rfl, rfl, dd, _, _, rfl, he, rfl, by show 2 ≤ sizeLine; decide, fun t ht => ⟨_, rfl, ?_⟩⟩
      refine q (.ref t) _ ((s0.trans s2).trans (Same.new ht _)) ?_
      rw [e]
      exact .tup (SqT.of upd_same) (.cons (.str _) (.cons (.int _) .nil))
  · refine ⟨_, rfl, _, rfl, _, rfl, ⟨rfl, rfl⟩, pa, _, p, m, most, rfl, hP.same s0, ok, hm, hm1, hm6, .inr ⟨d, hB.same s0, fun dd H2 s2 hd he => ?_⟩⟩
    refine ⟨false, T.xn_InvalidStart_TooManyRuns, lie', fun _ => ⟨true, T.xe_InvalidStart, fun _ a ha => ?_, lie⟩⟩
    refine ⟨_, rfl, rfl, rfl, dd, _, _, rfl, he, rfl, by show 2 ≤ sizeLine; decide, fun t ht => ⟨_, rfl, ?_⟩⟩
    exact q t _ ((s0.trans s2).trans (Same.new ht _)) (SqT.of upd_same)
theorem ok_pdeed (T : Tops w K mg) (G_plain_step : FnOk P w K mg base (L2.CX P w) 13 T.a_plain_step T.d_plain_step ["program", "standing", "deed", "most"] (spStep K T.c_Program T.c_InvalidDeed T.c_TooManyRuns)) :
    FnOk P w K mg base CX0 14 T.a__law_plain_deed T.d__law_plain_deed ["_law_program_here", "_law_here", "_law_deed_here", "_law_bound"] (spPDeed K T.c_Program) := by
  refine T.F__law_plain_deed.ok sc_law_plain_deed (fun vs H Q E h => ?_) (fun cdv AR outer s H vs Q E hr h => ?_)
  · obtain ⟨pa, sv, dv, p, m, most, rfl, _⟩ := h
    rfl
  obtain ⟨pa, sv, dv, p, m, most, rfl, hP, ok, hm, hm1, hm6, h⟩ := h
  refine ⟨_, (pss_cons (ps_set (i := 4) sc_law_plain_deed.nd rfl (Or.inl rfl) (pe_tup (pa_cons pe_str (pa_cons pe_non pa_nil))))
    (pss_cons (ps_try_asL rfl rfl sc_law_plain_deed.nd takes0 (fun W pn xe tk _ => (pss_one (ps_set (i := 4) sc_law_plain_deed.nd rfl (Or.inl rfl) (pe_tup (pa_cons pe_str (pa_cons (pe_callNS G_plain_step (hr.mono (by omega)) rfl T.m_plain_step T.F_plain_step.kp T.kb_plain_step (fun σ => passAt tk σ) (pa_cons (pv 0) (pa_cons (pv 1) (pa_cons (pv 2) pa_nil))) (pk_cons (pv 3) pk_nil)) pa_nil)))))) (Clauses.more (i := 5) rfl rfl ⟨rfl, by decide, .inl T.m_TooManyRuns⟩ (fun a oe cls d pn hz hf => (pss_one (ps_set (i := 4) sc_law_plain_deed.nd rfl (Or.inl rfl) (pe_tup (pa_cons pe_str (pa_cons (pe_xf ⟨T.xa_TooManyRuns, T.xg_TooManyRuns, T.x_TooManyRuns.exC, T.xh_TooManyRuns⟩ T.n_TooManyRuns_most hz hf (pv 5)) pa_nil)))))) (Clauses.more (i := 5) rfl rfl ⟨rfl, by decide, .inl T.m_InvalidDeed⟩ (fun a oe cls d pn hz hf => (pss_one (ps_set (i := 4) sc_law_plain_deed.nd rfl (Or.inl rfl) (pe_tup (pa_cons pe_str (pa_cons (pe_xf ⟨T.xa_InvalidDeed, T.xg_InvalidDeed, T.x_InvalidDeed.exC, T.xh_InvalidDeed⟩ T.n_InvalidDeed_deed hz hf (pv 5)) pa_nil)))))) Clauses.none)))
    (pss_one (ps_ret (pv 4))))), ?_⟩
  refine ⟨by show 2 ≤ sizeLine; decide, fun t0 ht0 => ?_⟩
  have s0 : Same H (upd H t0 (.tup [.str "none", .non])) := Same.new ht0 _
  dsimp only
  generalize upd H t0 (.tup [.str "none", .non]) = H1 at s0
  rcases h with ⟨d, k, hD, hsm, hk, hno, q⟩ | ⟨ws, nt, de, hS, hg, hde, hD, q⟩
  · refine ⟨_, rfl, _, rfl, _, rfl, _, rfl, ⟨rfl, rfl⟩, pa, _, _, p, m, most, rfl, hP.same s0, ok, hm, hm1, hm6, .inl ⟨d, k, Dp.same s0 hD, hsm, hk, hno, fun dd H2 s2 hd he => ?_⟩⟩
    refine ⟨false, T.xn_InvalidDeed_TooManyRuns, lie', fun _ => ⟨true, T.xe_InvalidDeed, fun _ a ha => ?_, lie⟩⟩
    refine ⟨_, rfl, rfl, rfl, dd, _, _, rfl, he, rfl, by show 2 ≤ sizeLine; decide, fun t ht => ⟨_, rfl, ?_⟩⟩
    exact q t _ ((s0.trans s2).trans (Same.new ht _)) (SqT.of upd_same)
  · refine ⟨_, rfl, _, rfl, _, rfl, _, rfl, ⟨rfl, rfl⟩, pa, _, _, p, m, most, rfl, hP.same s0, ok, hm, hm1, hm6, .inr ⟨ws, nt, de, Tn.same s0 hS, hg, hde, Tn.same s0 hD, fun d e v H2 s2 hv => ⟨by show 2 ≤ sizeLine; decide, fun t ht => ⟨_, rfl, ?_⟩⟩, fun e dd H2 s2 hd he => ?_⟩⟩
    · refine q (.ref t) _ ((s0.trans s2).trans (Same.new ht _)) ?_
      rw [e]
      exact .tup (SqT.of upd_same) (.cons (.str _) (.cons (Tn.same (Same.new ht _) hv) .nil))
    · refine ⟨true, T.xe_TooManyRuns, fun _ a ha => ?_, lie⟩
      refine ⟨_, rfl, rfl, rfl, dd, _, _, rfl, he, rfl, by show 2 ≤ sizeLine; decide, fun t ht => ⟨_, rfl, ?_⟩⟩
      refine q (.ref t) _ ((s0.trans s2).trans (Same.new ht _)) ?_
      rw [e]
      exact .tup (SqT.of upd_same) (.cons (.str _) (.cons (.int _) .nil))
end
end K68
namespace K68
open PySem PySem.Spec PyProof.Rows L2 Td
def nod14 (s w : Str) : List PyData := [.none, .list [], .tuple [], .tuple [.str "read"], .tuple [.str "read", .str "Other"], .tuple [.str "write", .str s], .tuple [.str "write", .str s, .str "Other"], .tuple [.str "batch", .tuple []], .tuple [.str "batch", .tuple [.tuple [.str s, .str w], .tuple [.str s, .str w]]], .list [.str "read", .str s],
  .tuple [.str "batch", .list [.tuple [.str s, .str w]]], .tuple [.str "push", .str s], .tuple [.str "write", .str s, .str w, .str w], .tuple [.str "read", .str s, .str s]]
theorem nod14_bad {p : PP} {m : Nat} {s w : Str} (ok : p.Ok m) (hs : s ∈ p.sources) (hw : w ∈ p.words) : ∀ d ∈ nod14 s w, smB 12 d = true ∧ isDeedD p d = false := by
  have sn := O_sources ok s hs
  have wn := O_words ok w hw
  have hO : smB 5 (.str "Other") = true := sm_of_str (by decide +kernel) (by decide +kernel)
  have k1 : ∀ k, smB (k + 1) (.str "read") = true := fun k => sm_of_str kw_len.1 kw_strOk.1
  have k2 : ∀ k, smB (k + 1) (.str "write") = true := fun k => sm_of_str kw_len.2.1 kw_strOk.2.1
  have k3 : ∀ k, smB (k + 1) (.str "batch") = true := fun k => sm_of_str kw_len.2.2.1 kw_strOk.2.2.1
  have k4 : ∀ k, smB (k + 1) (.str "push") = true := fun k => sm_of_str (by decide +kernel) (by decide +kernel)
  have ks : ∀ k, smB (k + 1) (.str s) = true := fun k => sm_of_nm sn
  have kw : ∀ k, smB (k + 1) (.str w) = true := fun k => sm_of_nm wn
  have tup : ∀ (k : Nat) (ds : List PyData), ds.length ≤ 100 → (∀ x ∈ ds, smB k x = true) → smB (k + 1) (.tuple ds) = true := fun k ds a b => sm_of_tup a b
  have oc : ("Other" : Str) ∉ p.cells := other_no (O_cells ok)
  have ow : ("Other" : Str) ∉ p.words := other_no (O_words ok)
  have two : ∀ k, smB (k + 2) (.tuple [.str s, .str w]) = true := fun k => sm_two (ks k) (kw k)
  have ne1 : ("read" : Str) ≠ "write" := by decide +kernel
  have ne2 : ("read" : Str) ≠ "batch" := by decide +kernel
  have ne3 : ("batch" : Str) ≠ "write" := by decide +kernel
  have ne4 : ("push" : Str) ≠ "write" := by decide +kernel
  have ne5 : ("push" : Str) ≠ "batch" := by decide +kernel
  have ne6 : ("push" : Str) ≠ "read" := by decide +kernel
  intro d hd
  unfold nod14 at hd
  simp only [List.mem_cons, List.not_mem_nil, or_false] at hd
  rcases hd with rfl | rfl | rfl | rfl | rfl | rfl | rfl | rfl | rfl | rfl | rfl | rfl | rfl | rfl
  · exact ⟨rfl, rfl⟩
  · exact ⟨sm_of_list (k := 11) (Nat.zero_le _) (fun x hx => nomatch hx), rfl⟩
  · exact ⟨tup 11 _ (Nat.zero_le _) (fun x hx => nomatch hx), rfl⟩
  · exact ⟨tup 11 _ (by show 1 ≤ 100; decide) (fun x hx => by rw [List.mem_singleton.mp hx]; exact k1 10), rfl⟩
  · refine ⟨sm_two (k1 10) (sm_of_str (by decide +kernel) (by decide +kernel)), ?_⟩
    rw [isDeed_eq, if_neg ne1, if_neg (by decide), if_neg ne2, if_pos rfl]
    exact decide_eq_false oc
  · exact ⟨sm_two (k2 10) (ks 10), by rw [isDeed_eq, if_pos rfl]; rfl⟩
  · refine ⟨tup 11 _ (by show 3 ≤ 100; decide) (fun x hx => ?_), ?_⟩
    · simp only [List.mem_cons, List.not_mem_nil, or_false] at hx
      rcases hx with rfl | rfl | rfl
      · exact k2 10
      · exact ks 10
      · exact sm_of_str (by decide +kernel) (by decide +kernel)
    · rw [isDeed_eq, if_pos rfl]
      show (inStrs p.sources (.str s) && inStrs p.words (.str "Other")) = false
      rw [show inStrs p.words (.str "Other") = false from decide_eq_false ow, Bool.and_false]
  · refine ⟨sm_two (k3 10) (tup 10 _ (Nat.zero_le _) (fun x hx => nomatch hx)), ?_⟩
    rw [isDeed_eq, if_neg ne3, if_neg (by decide), if_pos rfl]
    rfl
  · refine ⟨sm_two (k3 10) (sm_two (two 8) (two 8)), ?_⟩
    rw [isDeed_eq, if_neg ne3, if_neg (by decide), if_pos rfl]
    show (true && (isWriteD p (.tuple [.str s, .str w]) && (!decide (s ∈ ([] : List Str)) && (isWriteD p (.tuple [.str s, .str w]) && (!decide (s ∈ ([] ++ [s] : List Str)) && true))))) = false
    rw [show decide (s ∈ ([] ++ [s] : List Str)) = true from decide_eq_true (by simp)]
    simp
  · refine ⟨sm_of_list (by show 2 ≤ 100; decide) (fun x hx => ?_), rfl⟩
    simp only [List.mem_cons, List.not_mem_nil, or_false] at hx
    rcases hx with rfl | rfl
    · exact k1 10
    · exact ks 10
  · refine ⟨sm_two (k3 10) (sm_of_list (k := 10) (by show 1 ≤ 100; decide) (fun x hx => by rw [List.mem_singleton.mp hx]; exact two 8)), ?_⟩
    rw [isDeed_eq, if_neg ne3, if_neg (by decide), if_pos rfl]
    rfl
  · refine ⟨sm_two (k4 10) (ks 10), ?_⟩
    rw [isDeed_eq, if_neg ne4, if_neg (by decide), if_neg ne5, if_neg ne6]
  · refine ⟨tup 11 _ (by show 4 ≤ 100; decide) (fun x hx => ?_), ?_⟩
    · simp only [List.mem_cons, List.not_mem_nil, or_false] at hx
      rcases hx with rfl | rfl | rfl | rfl
      · exact k2 10
      · exact ks 10
      · exact kw 10
      · exact kw 10
    · rw [isDeed_eq, if_pos rfl]
      rfl
  · refine ⟨tup 11 _ (by show 3 ≤ 100; decide) (fun x hx => ?_), ?_⟩
    · simp only [List.mem_cons, List.not_mem_nil, or_false] at hx
      rcases hx with rfl | rfl | rfl
      · exact k1 10
      · exact ks 10
      · exact ks 10
    · rw [isDeed_eq, if_neg ne1]
      rfl
def spNoDeed (K : PySem.W.Frag) : Sp := fun vs H Q _ => ∃ (st sc : Addr) (pv : V) (p : PP) (m : Nat), vs = [.ref st, pv] ∧ StOk H st sc ∧ Tn K H pv p.data ∧ p.Ok m ∧
  ∀ (v : V) (d : PyData) H', Keep st H H' → StOk H' st sc → Dp K H' v d → smB 12 d = true → isDeedD p d = false → Q v H'
section
variable {P : Program} {w : World} {K : PySem.W.Frag} {mg : Str → Option Value} {base : Heap}
theorem ok_no_deed (T : Tops w K mg) (G__law_draw : FnOk P w K mg base CX0 1 T.a__law_draw T.d__law_draw ["_law_state_here", "_law_many_here"] spDraw) :
    FnOk P w K mg base CX0 2 T.a__law_no_deed T.d__law_no_deed ["_law_state_here", "_law_parts_here"] (spNoDeed K) := by
  refine T.F__law_no_deed.ok sc_law_no_deed (fun vs H Q E h => ?_) (fun cdv AR outer s H vs Q E hr h => ?_)
  · obtain ⟨st, sc, pd, p, m, rfl, _⟩ := h
    rfl
  obtain ⟨st, sc, pd, p, m, rfl, hst, hD, ok, q⟩ := h
  refine ⟨_, (pss_cons (ps_set (i := 2) sc_law_no_deed.nd rfl (Or.inl rfl) (pe_ix ix_tup (pe_ix ix_tup (pv 1) pe_int (fun _ _ => rfl)) (pe_call G__law_draw (hr.mono (by omega)) rfl T.m__law_draw T.F__law_draw.kp T.b__law_draw .nil pass0 (pa_cons (pv 0) (pa_cons (pe_callB call_len rfl T.z_len PySem.boot_len (pa_cons (pe_ix ix_tup (pv 1) pe_int (fun _ _ => rfl)) pa_nil)) pa_nil))) (fun _ _ => rfl)))
    (pss_cons (ps_set (i := 3) sc_law_no_deed.nd rfl (Or.inl rfl) (pe_ix ix_tup (pe_ix ix_tup (pv 1) pe_int (fun _ _ => rfl)) (pe_call G__law_draw (hr.mono (by omega)) rfl T.m__law_draw T.F__law_draw.kp T.b__law_draw .nil pass0 (pa_cons (pv 0) (pa_cons (pe_callB call_len rfl T.z_len PySem.boot_len (pa_cons (pe_ix ix_tup (pv 1) pe_int (fun _ _ => rfl)) pa_nil)) pa_nil))) (fun _ _ => rfl)))
    (pss_cons (ps_set (i := 4) sc_law_no_deed.nd rfl (Or.inl rfl) (pe_lst (pa_cons pe_non (pa_cons (pe_lst pa_nil) (pa_cons (pe_tup pa_nil) (pa_cons (pe_tup (pa_cons pe_str pa_nil)) (pa_cons (pe_tup (pa_cons pe_str (pa_cons pe_str pa_nil))) (pa_cons (pe_tup (pa_cons pe_str (pa_cons (pv 2) pa_nil))) (pa_cons (pe_tup (pa_cons pe_str (pa_cons (pv 2) (pa_cons pe_str pa_nil)))) pa_nil)))))))))
    (pss_cons (ps_set (i := 4) sc_law_no_deed.nd rfl (Or.inl rfl) (pe_op op_cat (pv 4) (pe_lst (pa_cons (pe_tup (pa_cons pe_str (pa_cons (pe_tup pa_nil) pa_nil))) (pa_cons (pe_tup (pa_cons pe_str (pa_cons (pe_tup (pa_cons (pe_tup (pa_cons (pv 2) (pa_cons (pv 3) pa_nil))) (pa_cons (pe_tup (pa_cons (pv 2) (pa_cons (pv 3) pa_nil))) pa_nil))) pa_nil))) (pa_cons (pe_lst (pa_cons pe_str (pa_cons (pv 2) pa_nil))) pa_nil))))))
    (pss_cons (ps_set (i := 4) sc_law_no_deed.nd rfl (Or.inl rfl) (pe_op op_cat (pv 4) (pe_lst (pa_cons (pe_tup (pa_cons pe_str (pa_cons (pe_lst (pa_cons (pe_tup (pa_cons (pv 2) (pa_cons (pv 3) pa_nil))) pa_nil)) pa_nil))) (pa_cons (pe_tup (pa_cons pe_str (pa_cons (pv 2) pa_nil))) (pa_cons (pe_tup (pa_cons pe_str (pa_cons (pv 2) (pa_cons (pv 3) (pa_cons (pv 3) pa_nil))))) pa_nil))))))
    (pss_cons (ps_set (i := 4) sc_law_no_deed.nd rfl (Or.inl rfl) (pe_op op_cat (pv 4) (pe_lst (pa_cons (pe_tup (pa_cons pe_str (pa_cons (pv 2) (pa_cons (pv 2) pa_nil)))) pa_nil))))
    (pss_one (ps_ret (pe_ix ix_list (pv 4) (pe_call G__law_draw (hr.mono (by omega)) rfl T.m__law_draw T.F__law_draw.kp T.b__law_draw .nil pass0 (pa_cons (pv 0) (pa_cons pe_int pa_nil))) (fun _ _ => rfl)))))))))), ?_⟩
  obtain ⟨pa, aw, as, vd, ve, rfl, hP, h1, h2, h3, h4⟩ := parts_at hD
  have w2 := ok.w2; have w4 := ok.w4; have s1' := ok.s1; have s4' := ok.s4
  have wl : (p.words.map V.str).length = p.words.length := List.length_map _
  have sl : (p.sources.map V.str).length = p.sources.length := List.length_map _
  refine ⟨_, rfl, pa, _, 1, _, rfl, rfl, hP, rfl, _, rfl, _, rfl, pa, _, 1, _, rfl, rfl, hP, rfl, .ref as, _, rfl, .inr ⟨_, h2, rfl⟩, st, sc, _, rfl, by omega, by omega, hst, fun r3 H1 h0 h1' k1 o1 _ => ?_⟩
  obtain ⟨j, s, hs, hj, hat⟩ := pick_at h0 h1'
  have tk1 := TK.of_keep k1 hst.chg
  have hP1 := SqT.tk tk1 hP
  refine ⟨as, _, _, _, rfl, rfl, SqT.tk tk1 h2, hat, ?_⟩
  refine ⟨_, rfl, pa, _, 0, _, rfl, rfl, hP1, rfl, _, rfl, _, rfl, pa, _, 0, _, rfl, rfl, hP1, rfl, .ref aw, _, rfl, .inr ⟨_, SqT.tk tk1 h1, rfl⟩, st, sc, _, rfl, by omega, by omega, o1, fun r4 H2 h2' h3' k2 o2 _ => ?_⟩
  obtain ⟨j2, w, hw, hj2, hat2⟩ := pick_at h2' h3'
  refine ⟨aw, _, _, _, rfl, rfl, SqT.tk ((TK.of_keep k2 o1.chg)) (SqT.tk tk1 h1), hat2, ?_⟩
  have hsm := List.mem_of_getElem? hs
  have hwm := List.mem_of_getElem? hw
  have k02 := k1.trans k2
  -- the first seven
  refine ⟨by show 0 ≤ sizeLine; decide, fun a1 ha1 => ?_⟩
  have c1 := Same.new ha1 (.lst [])
  have e1 : upd H2 a1 (.lst []) a1 = some (.lst []) := upd_same
  have n1 := (o2.ne ha1).1
  have p1 := stGo o2 c1
  generalize upd H2 a1 (.lst []) = H3 at c1 e1 p1
  refine ⟨by show 0 ≤ sizeLine; decide, fun a2 ha2 => ?_⟩
  have c2 := Same.new ha2 (.tup [])
  have e2 : SqT K (upd H3 a2 (.tup [])) a2 [] := SqT.of upd_same
  generalize upd H3 a2 (.tup []) = H4 at c2 e2
  refine ⟨by show 1 ≤ sizeLine; decide, fun a3 ha3 => ?_⟩
  have c3 := Same.new ha3 (.tup [V.str "read"])
  have e3 : SqT K (upd H4 a3 (.tup [V.str "read"])) a3 [V.str "read"] := SqT.of upd_same
  generalize upd H4 a3 (.tup [V.str "read"]) = H5 at c3 e3
  refine ⟨by show 2 ≤ sizeLine; decide, fun a4 ha4 => ?_⟩
  have c4 := Same.new ha4 (.tup [V.str "read", .str "Other"])
  have e4 : SqT K (upd H5 a4 (.tup [V.str "read", .str "Other"])) a4 [V.str "read", .str "Other"] := SqT.of upd_same
  generalize upd H5 a4 (.tup [V.str "read", .str "Other"]) = H6 at c4 e4
  refine ⟨_, rfl, by show 2 ≤ sizeLine; decide, fun a5 ha5 => ?_⟩
  have c5 := Same.new ha5 (.tup [V.str "write", .str s])
  have e5 : SqT K (upd H6 a5 (.tup [V.str "write", .str s])) a5 [V.str "write", .str s] := SqT.of upd_same
  generalize upd H6 a5 (.tup [V.str "write", .str s]) = H7 at c5 e5
  refine ⟨_, rfl, by show 3 ≤ sizeLine; decide, fun a6 ha6 => ?_⟩
  have c6 := Same.new ha6 (.tup [V.str "write", .str s, .str "Other"])
  have e6 : SqT K (upd H7 a6 (.tup [V.str "write", .str s, .str "Other"])) a6 [V.str "write", .str s, .str "Other"] := SqT.of upd_same
  generalize upd H7 a6 (.tup [V.str "write", .str s, .str "Other"]) = H8 at c6 e6
  refine ⟨by show 7 ≤ sizeLine; decide, fun q1 hq1 => ?_⟩
  have c7 := Same.new hq1 (.lst [V.non, .ref a1, .ref a2, .ref a3, .ref a4, .ref a5, .ref a6])
  have e7 : upd H8 q1 (.lst [V.non, .ref a1, .ref a2, .ref a3, .ref a4, .ref a5, .ref a6]) q1 = some (.lst [V.non, .ref a1, .ref a2, .ref a3, .ref a4, .ref a5, .ref a6]) := upd_same
  dsimp only
  generalize upd H8 q1 (.lst [V.non, .ref a1, .ref a2, .ref a3, .ref a4, .ref a5, .ref a6]) = H9 at c7 e7
  -- three more
  refine ⟨_, rfl, by show 0 ≤ sizeLine; decide, fun b0 hb0 => ?_⟩
  have d0 := Same.new hb0 (.tup [])
  have f0 : SqT K (upd H9 b0 (.tup [])) b0 [] := SqT.of upd_same
  generalize upd H9 b0 (.tup []) = G1 at d0 f0
  refine ⟨by show 2 ≤ sizeLine; decide, fun b1 hb1 => ?_⟩
  have d1 := Same.new hb1 (.tup [V.str "batch", .ref b0])
  have f1 : SqT K (upd G1 b1 (.tup [V.str "batch", .ref b0])) b1 [V.str "batch", .ref b0] := SqT.of upd_same
  generalize upd G1 b1 (.tup [V.str "batch", .ref b0]) = G2 at d1 f1
  refine ⟨_, rfl, _, rfl, by show 2 ≤ sizeLine; decide, fun b2 hb2 => ?_⟩
  have d2 := Same.new hb2 (.tup [V.str s, .str w])
  have f2 : SqT K (upd G2 b2 (.tup [V.str s, .str w])) b2 [V.str s, .str w] := SqT.of upd_same
  generalize upd G2 b2 (.tup [V.str s, .str w]) = G3 at d2 f2
  refine ⟨_, rfl, _, rfl, by show 2 ≤ sizeLine; decide, fun b3 hb3 => ?_⟩
  have d3 := Same.new hb3 (.tup [V.str s, .str w])
  have f3 : SqT K (upd G3 b3 (.tup [V.str s, .str w])) b3 [V.str s, .str w] := SqT.of upd_same
  generalize upd G3 b3 (.tup [V.str s, .str w]) = G4 at d3 f3
  refine ⟨by show 2 ≤ sizeLine; decide, fun b4 hb4 => ?_⟩
  have d4 := Same.new hb4 (.tup [V.ref b2, .ref b3])
  have f4 : SqT K (upd G4 b4 (.tup [V.ref b2, .ref b3])) b4 [V.ref b2, .ref b3] := SqT.of upd_same
  generalize upd G4 b4 (.tup [V.ref b2, .ref b3]) = G5 at d4 f4
  refine ⟨by show 2 ≤ sizeLine; decide, fun b5 hb5 => ?_⟩
  have d5 := Same.new hb5 (.tup [V.str "batch", .ref b4])
  have f5 : SqT K (upd G5 b5 (.tup [V.str "batch", .ref b4])) b5 [V.str "batch", .ref b4] := SqT.of upd_same
  generalize upd G5 b5 (.tup [V.str "batch", .ref b4]) = G6 at d5 f5
  have t6 := c2.trans (c3.trans (c4.trans (c5.trans (c6.trans (c7.trans (d0.trans (d1.trans (d2.trans (d3.trans (d4.trans d5))))))))))
  have p6 := stGo p1 t6
  refine ⟨_, rfl, by show 2 ≤ sizeLine; decide, fun b6 hb6 => ?_⟩
  have n6 := (p6.ne hb6).1
  have d6 := Same.new hb6 (.lst [V.str "read", .str s])
  have f6 : upd G6 b6 (.lst [V.str "read", .str s]) b6 = some (.lst [V.str "read", .str s]) := upd_same
  generalize upd G6 b6 (.lst [V.str "read", .str s]) = G7 at d6 f6
  refine ⟨by show 3 ≤ sizeLine; decide, fun q2 hq2 => ?_⟩
  have d7 := Same.new hq2 (.lst [V.ref b1, .ref b5, .ref b6])
  have f7 : upd G7 q2 (.lst [V.ref b1, .ref b5, .ref b6]) q2 = some (.lst [V.ref b1, .ref b5, .ref b6]) := upd_same
  generalize upd G7 q2 (.lst [V.ref b1, .ref b5, .ref b6]) = G8 at d7 f7
  have e7' := (d0.trans (d1.trans (d2.trans (d3.trans (d4.trans (d5.trans (d6.trans d7))))))) _ _ e7
  refine ⟨q1, q2, _, _, rfl, rfl, e7', f7, by show 10 ≤ sizeLine; decide, fun q3 hq3 => ?_⟩
  have d8 := Same.new hq3 (.lst ([V.non, .ref a1, .ref a2, .ref a3, .ref a4, .ref a5, .ref a6] ++ [V.ref b1, .ref b5, .ref b6]))
  have f8 : upd G8 q3 (.lst ([V.non, .ref a1, .ref a2, .ref a3, .ref a4, .ref a5, .ref a6] ++ [V.ref b1, .ref b5, .ref b6])) q3 = some (.lst [V.non, .ref a1, .ref a2, .ref a3, .ref a4, .ref a5, .ref a6, .ref b1, .ref b5, .ref b6]) := upd_same
  dsimp only
  generalize upd G8 q3 (.lst ([V.non, .ref a1, .ref a2, .ref a3, .ref a4, .ref a5, .ref a6] ++ [V.ref b1, .ref b5, .ref b6])) = G9 at d8 f8
  -- three more
  refine ⟨_, rfl, _, rfl, _, rfl, by show 2 ≤ sizeLine; decide, fun x0 hx0 => ?_⟩
  have y0 := Same.new hx0 (.tup [V.str s, .str w])
  have z0 : SqT K (upd G9 x0 (.tup [V.str s, .str w])) x0 [V.str s, .str w] := SqT.of upd_same
  generalize upd G9 x0 (.tup [V.str s, .str w]) = J1 at y0 z0
  have t9 := t6.trans (d6.trans (d7.trans (d8.trans y0)))
  have p9 := stGo p1 t9
  refine ⟨by show 1 ≤ sizeLine; decide, fun x1 hx1 => ?_⟩
  have n9 := (p9.ne hx1).1
  have y1 := Same.new hx1 (.lst [V.ref x0])
  have z1 : upd J1 x1 (.lst [V.ref x0]) x1 = some (.lst [V.ref x0]) := upd_same
  generalize upd J1 x1 (.lst [V.ref x0]) = J2 at y1 z1
  refine ⟨by show 2 ≤ sizeLine; decide, fun x2 hx2 => ?_⟩
  have y2 := Same.new hx2 (.tup [V.str "batch", .ref x1])
  have z2 : SqT K (upd J2 x2 (.tup [V.str "batch", .ref x1])) x2 [V.str "batch", .ref x1] := SqT.of upd_same
  generalize upd J2 x2 (.tup [V.str "batch", .ref x1]) = J3 at y2 z2
  refine ⟨_, rfl, by show 2 ≤ sizeLine; decide, fun x3 hx3 => ?_⟩
  have y3 := Same.new hx3 (.tup [V.str "push", .str s])
  have z3 : SqT K (upd J3 x3 (.tup [V.str "push", .str s])) x3 [V.str "push", .str s] := SqT.of upd_same
  generalize upd J3 x3 (.tup [V.str "push", .str s]) = J4 at y3 z3
  refine ⟨_, rfl, _, rfl, _, rfl, by show 4 ≤ sizeLine; decide, fun x4 hx4 => ?_⟩
  have y4 := Same.new hx4 (.tup [V.str "write", .str s, .str w, .str w])
  have z4 : SqT K (upd J4 x4 (.tup [V.str "write", .str s, .str w, .str w])) x4 [V.str "write", .str s, .str w, .str w] := SqT.of upd_same
  generalize upd J4 x4 (.tup [V.str "write", .str s, .str w, .str w]) = J5 at y4 z4
  refine ⟨by show 3 ≤ sizeLine; decide, fun q4 hq4 => ?_⟩
  have y5 := Same.new hq4 (.lst [V.ref x2, .ref x3, .ref x4])
  have z5 : upd J5 q4 (.lst [V.ref x2, .ref x3, .ref x4]) q4 = some (.lst [V.ref x2, .ref x3, .ref x4]) := upd_same
  generalize upd J5 q4 (.lst [V.ref x2, .ref x3, .ref x4]) = J6 at y5 z5
  have f8' := (y0.trans (y1.trans (y2.trans (y3.trans (y4.trans y5))))) _ _ f8
  refine ⟨q3, q4, _, _, rfl, rfl, f8', z5, by show 13 ≤ sizeLine; decide, fun q5 hq5 => ?_⟩
  have y6 := Same.new hq5 (.lst ([V.non, .ref a1, .ref a2, .ref a3, .ref a4, .ref a5, .ref a6, .ref b1, .ref b5, .ref b6] ++ [V.ref x2, .ref x3, .ref x4]))
  have z6 : upd J6 q5 (.lst ([V.non, .ref a1, .ref a2, .ref a3, .ref a4, .ref a5, .ref a6, .ref b1, .ref b5, .ref b6] ++ [V.ref x2, .ref x3, .ref x4])) q5 = some (.lst [V.non, .ref a1, .ref a2, .ref a3, .ref a4, .ref a5, .ref a6, .ref b1, .ref b5, .ref b6, .ref x2, .ref x3, .ref x4]) := upd_same
  dsimp only
  generalize upd J6 q5 (.lst ([V.non, .ref a1, .ref a2, .ref a3, .ref a4, .ref a5, .ref a6, .ref b1, .ref b5, .ref b6] ++ [V.ref x2, .ref x3, .ref x4])) = J7 at y6 z6
  -- the last
  refine ⟨_, rfl, _, rfl, _, rfl, by show 3 ≤ sizeLine; decide, fun u0 hu0 => ?_⟩
  have v0 := Same.new hu0 (.tup [V.str "read", .str s, .str s])
  have r0 : SqT K (upd J7 u0 (.tup [V.str "read", .str s, .str s])) u0 [V.str "read", .str s, .str s] := SqT.of upd_same
  generalize upd J7 u0 (.tup [V.str "read", .str s, .str s]) = L1 at v0 r0
  refine ⟨by show 1 ≤ sizeLine; decide, fun q6 hq6 => ?_⟩
  have v1 := Same.new hq6 (.lst [V.ref u0])
  have r1 : upd L1 q6 (.lst [V.ref u0]) q6 = some (.lst [V.ref u0]) := upd_same
  generalize upd L1 q6 (.lst [V.ref u0]) = L2' at v1 r1
  have z6' := (v0.trans v1) _ _ z6
  refine ⟨q5, q6, _, _, rfl, rfl, z6', r1, by show 14 ≤ sizeLine; decide, fun q7 hq7 => ?_⟩
  have v2 := Same.new hq7 (.lst ([V.non, .ref a1, .ref a2, .ref a3, .ref a4, .ref a5, .ref a6, .ref b1, .ref b5, .ref b6, .ref x2, .ref x3, .ref x4] ++ [V.ref u0]))
  have r2 : upd L2' q7 (.lst ([V.non, .ref a1, .ref a2, .ref a3, .ref a4, .ref a5, .ref a6, .ref b1, .ref b5, .ref b6, .ref x2, .ref x3, .ref x4] ++ [V.ref u0])) q7 = some (.lst [V.non, .ref a1, .ref a2, .ref a3, .ref a4, .ref a5, .ref a6, .ref b1, .ref b5, .ref b6, .ref x2, .ref x3, .ref x4, .ref u0]) := upd_same
  have vv := v0.trans (v1.trans v2)
  have tEnd := t9.trans (y1.trans (y2.trans (y3.trans (y4.trans (y5.trans (y6.trans vv))))))
  have pE := stGo p1 tEnd
  have nq7 := ((stGo p1 (t9.trans (y1.trans (y2.trans (y3.trans (y4.trans (y5.trans (y6.trans (v0.trans v1)))))))) ).ne hq7).1
  dsimp only
  generalize upd L2' q7 (.lst ([V.non, .ref a1, .ref a2, .ref a3, .ref a4, .ref a5, .ref a6, .ref b1, .ref b5, .ref b6, .ref x2, .ref x3, .ref x4] ++ [V.ref u0])) = E1 at v2 r2 vv tEnd pE
  refine ⟨_, rfl, _, rfl, st, sc, 14, rfl, by decide, by decide, pE, fun r E2 rr0 rr1 kE oE _ => ?_⟩
  have tkE := TK.of_keep kE pE.chg
  have g5 := y6.trans vv
  have g4 := y1.trans (y2.trans (y3.trans (y4.trans (y5.trans g5))))
  have gA := d6.trans (d7.trans (d8.trans (y0.trans g4)))
  have M : ∀ {X : Hp} {a : Addr} {us : List V}, Same X E1 → SqT K X a us → SqT K E2 a us := fun sx h => SqT.tk tkE (SqT.same sx h)
  have hall : DpAll K E2 [V.non, .ref a1, .ref a2, .ref a3, .ref a4, .ref a5, .ref a6, .ref b1, .ref b5, .ref b6, .ref x2, .ref x3, .ref x4, .ref u0] (nod14 s w) := by
    have wd : ∀ {X : Hp} {a : Addr}, Same X E1 → SqT K X a [V.str s, .str w] → Dp K E2 (.ref a) (.tuple [.str s, .str w]) := fun sx h => .tup (M sx h) (.cons (.str _) (.cons (.str _) .nil))
    have s2 := c3.trans (c4.trans (c5.trans (c6.trans (c7.trans (d0.trans (d1.trans (d2.trans (d3.trans (d4.trans (d5.trans gA))))))))))
    have s3 := c4.trans (c5.trans (c6.trans (c7.trans (d0.trans (d1.trans (d2.trans (d3.trans (d4.trans (d5.trans gA)))))))))
    have s4 := c5.trans (c6.trans (c7.trans (d0.trans (d1.trans (d2.trans (d3.trans (d4.trans (d5.trans gA))))))))
    have s5 := c6.trans (c7.trans (d0.trans (d1.trans (d2.trans (d3.trans (d4.trans (d5.trans gA)))))))
    have s6 := c7.trans (d0.trans (d1.trans (d2.trans (d3.trans (d4.trans (d5.trans gA))))))
    have u1 := d1.trans (d2.trans (d3.trans (d4.trans (d5.trans gA))))
    have u2 := d2.trans (d3.trans (d4.trans (d5.trans gA)))
    have u3 := d3.trans (d4.trans (d5.trans gA))
    have u4 := d4.trans (d5.trans gA)
    have u5 := d5.trans gA
    have x1' := y3.trans (y4.trans (y5.trans g5))
    refine .cons .non (.cons (.lst (SqL.of (kE _ _ n1 (tEnd _ _ e1))) .nil) (.cons (.tup (M s2 e2) .nil) (.cons (.tup (M s3 e3) (.cons (.str _) .nil)) (.cons (.tup (M s4 e4) (.cons (.str _) (.cons (.str _) .nil))) (.cons (.tup (M s5 e5) (.cons (.str _) (.cons (.str _) .nil))) (.cons (.tup (M s6 e6) (.cons (.str _) (.cons (.str _) (.cons (.str _) .nil)))) ?_))))))
    refine .cons (.tup (M u2 f1) (.cons (.str _) (.cons (.tup (M u1 f0) .nil) .nil))) (.cons (.tup (M gA f5) (.cons (.str _) (.cons (.tup (M u5 f4) (.cons (wd u3 f2) (.cons (wd u4 f3) .nil))) .nil))) (.cons (.lst (SqL.of (kE _ _ n6 ((d7.trans (d8.trans (y0.trans g4))) _ _ f6))) (.cons (.str _) (.cons (.str _) .nil))) ?_))
    exact .cons (.tup (M x1' z2) (.cons (.str _) (.cons (.lst (SqL.of (kE _ _ n9 ((y2.trans x1') _ _ z1))) (.cons (wd g4 z0) .nil)) .nil))) (.cons (.tup (M (y4.trans (y5.trans g5)) z3) (.cons (.str _) (.cons (.str _) .nil))) (.cons (.tup (M (y5.trans g5) z4) (.cons (.str _) (.cons (.str _) (.cons (.str _) (.cons (.str _) .nil))))) (.cons (.tup (M (v1.trans v2) r0) (.cons (.str _) (.cons (.str _) (.cons (.str _) .nil)))) .nil)))
  obtain ⟨jj, rfl⟩ : ∃ j : Nat, r = (j : Nat) := ⟨r.toNat, by omega⟩
  have hjj : jj < 14 := by omega
  have hx : ([V.non, .ref a1, .ref a2, .ref a3, .ref a4, .ref a5, .ref a6, .ref b1, .ref b5, .ref b6, .ref x2, .ref x3, .ref x4, .ref u0] : List V)[jj]? = some (([V.non, .ref a1, .ref a2, .ref a3, .ref a4, .ref a5, .ref a6, .ref b1, .ref b5, .ref b6, .ref x2, .ref x3, .ref x4, .ref u0] : List V)[jj]'hjj) := List.getElem?_eq_getElem hjj
  obtain ⟨d, hd, hv⟩ := DpAll.get hall hx
  obtain ⟨g1, g2⟩ := nod14_bad ok hsm hwm d (List.mem_of_getElem? hd)
  refine ⟨q7, _, (jj : Nat), _, rfl, rfl, SqL.of (kE _ _ nq7 r2), atI_nat hx, ?_⟩
  exact q _ d _ ((k02.trans (K68.Keep.of_same (c1.trans tEnd))).trans kE) oE hv g1 g2
end
end K68
namespace K68
open PySem PySem.Spec PyProof.Rows L2 Td
theorem ProgAt.keep {K : PySem.W.Frag} {H H' : Hp} {C pa st : Addr} {p : PP} (h : ProgAt K H C pa p) (k : Keep st H H') (n : pa ≠ st) (ch : Chg (H st)) : ProgAt K H' C pa p := by
  obtain ⟨dx, aw, as, vd, ve, ⟨dn, en, e, hdn, hen⟩, h1, h2, h3, h4⟩ := h.ex
  have tk := TK.of_keep k ch
  exact ⟨dx, aw, as, vd, ve, ⟨dn, en, k _ _ n e, SqT.tk tk hdn, SqT.tk tk hen⟩, SqT.tk tk h1, SqT.tk tk h2, Tn.keep tk h3, Tn.keep tk h4⟩
theorem DataX.keepS {K : PySem.W.Frag} {H H' : Hp} {v : V} {p : PP} {st sc : Addr} (h : partsX K H v p) (k : Keep st H H') (o : StOk H st sc) : partsX K H' v p := DataX.tk (TK.of_keep k o.chg) h
theorem lawRest_keeps {p : PP} {m most : Nat} (ok : p.Ok m) (hm : m ≤ 16) : ∀ (n : Nat) (s : PM × Bool), s.1.Good p → s.1.rn ≤ most → (∀ o ∈ s.1.nt, o ≠ none) →
    (lawRest p most n s).1.Good p ∧ (lawRest p most n s).1.lro most ≤ s.1.lro most ∧ ∀ o ∈ (lawRest p most n s).1.nt, o ≠ none
  | 0, s, g, _, n => ⟨g, Nat.le_refl _, n⟩
  | k + 1, s, g, r, n => by
    unfold lawRest
    split
    · exact lawRest_keeps ok hm k s g r n
    · rename_i c rest e0
      have g3 : ({ s.1 with wt := rest } : PM).Good p := ⟨g.wl, g.ww, g.nl, g.nn, fun x hx => g.wt x (by rw [e0]; exact List.mem_cons_of_mem _ hx), g.lg⟩
      have hci : ∀ x ∈ [c], x.1 ∈ p.sources ∧ x.2 ∈ p.words := fun x hx => by rw [List.mem_singleton.mp hx]; exact g.wt c (by rw [e0]; exact List.mem_cons_self)
      obtain ⟨y1, y2, y3, y4, y5⟩ := lawWrite_keeps (most := most) (wr := [c]) (s := ({ s.1 with wt := rest }, s.2)) ok hm hci g3 r n
      obtain ⟨z1, z2, z3⟩ := lawRest_keeps ok hm k _ y1 y2 y5
      exact ⟨z1, Nat.le_trans z2 y4, z3⟩
/-- a machine at rest -/
structure AtRest (p : PP) (most : Nat) (M : PM) : Prop where
  good : M.Good p
  lro : M.lro most ≤ 16 * most
  nn : ∀ o ∈ M.nt, o ≠ none
theorem beg_rest {p : PP} {m most : Nat} {ws : List Str} {M' : PM} (ok : p.Ok m) (hm : m ≤ 16) (hl : ws.length = p.sources.length) (hw : ∀ z ∈ ws, z ∈ p.words) (e : begF p most ws = some M') : AtRest p most M' := by
  have h := (beg_rel (p := p) (most := most) (ws := ws)).1 M' e
  have g0 : (atR ws (p.effects.map fun _ => some [])).Good p := ⟨hl, hw, List.length_map _, (fun l hl => by
    obtain ⟨_, _, z⟩ := List.mem_map.mp hl
    cases z
    exact ⟨Nat.zero_le _, fun c hc => nomatch hc⟩), (fun c hc => nomatch hc), (fun c hc => nomatch hc)⟩
  have n0 : ∀ o ∈ (atR ws (p.effects.map fun _ => some [])).nt, o ≠ none := fun o ho => by
    obtain ⟨_, _, rfl⟩ := List.mem_map.mp ho
    exact fun z => nomatch z
  have l0 : (atR ws (p.effects.map fun _ => some [])).lro most = 16 * most := by show 0 + 16 * (most - 0) = _; omega
  obtain ⟨a1, a2, a3, a4, a5⟩ := lawAll_keeps (most := most) ok hm p.effects 0 (atR ws (p.effects.map fun _ => some []), false) (fun q hq => hq) g0 (Nat.zero_le _) n0
  obtain ⟨b1, b2, b3⟩ := lawRest_keeps (most := most) ok hm (16 * most + 1) _ a1 a2 a5
  rw [h] at b1 b2 b3
  exact ⟨b1, Nat.le_trans b2 (Nat.le_trans a4 (Nat.le_of_eq l0)), b3⟩
theorem mov_rest {p : PP} {m most : Nat} {ws : List Str} {nt : List (Option Td.Env)} {wr : Td.Env} {M' : PM} (ok : p.Ok m) (hm : m ≤ 16) (g : (atR ws nt).Good p) (n : ∀ o ∈ nt, o ≠ none) (hw : ∀ c ∈ wr, c.1 ∈ p.sources ∧ c.2 ∈ p.words) (e : movF p most (atR ws nt) wr = some M') : AtRest p most M' := by
  have h := (mov_rel (p := p) (most := most) (M := atR ws nt) (wr := wr)).1 M' e
  have l0 : (atR ws nt).lro most = 16 * most := by show 0 + 16 * (most - 0) = _; omega
  obtain ⟨a1, a2, a3, a4, a5⟩ := lawWrite_keeps (most := most) (wr := wr) (s := (atR ws nt, false)) ok hm hw g (Nat.zero_le _) n
  obtain ⟨b1, b2, b3⟩ := lawRest_keeps (most := most) ok hm (16 * most + 1) _ a1 a2 a5
  rw [h] at b1 b2 b3
  exact ⟨b1, Nat.le_trans b2 (Nat.le_trans a4 (Nat.le_of_eq l0)), b3⟩
theorem env_sm {p : PP} {m : Nat} (ok : p.Ok m) {L : Td.Env} (hl : L.length ≤ 100) (h : ∀ c ∈ L, isNm c.1 = true ∧ isNm c.2 = true) (k : Nat) : smB (k + 3) (.tuple (L.map wrD)) = true := sm_of_tup (by rw [List.length_map]; exact hl) fun x hx => by
  obtain ⟨c, hc, rfl⟩ := List.mem_map.mp hx
  exact sm_two (sm_of_nm (h c hc).1) (sm_of_nm (h c hc).2)
theorem restD_sm {p : PP} {m : Nat} {M : PM} (ok : p.Ok m) (g : M.Good p) : smB 6 (restD M) = true := by
  have s4 := ok.s4
  have e4 := ok.e4
  refine sm_two (sm_of_tup (by rw [List.length_map, g.wl]; omega) fun x hx => ?_) (sm_of_tup (by rw [List.length_map, g.nl]; omega) fun x hx => ?_)
  · obtain ⟨z, hz, rfl⟩ := List.mem_map.mp hx
    exact sm_of_nm (O_words ok z (g.ww z hz))
  · obtain ⟨o, ho, rfl⟩ := List.mem_map.mp hx
    cases o with
    | none => rfl
    | some l =>
      obtain ⟨a, b⟩ := g.nn l ho
      exact env_sm ok (by omega) (fun c hc => ⟨O_cells ok _ (b c hc).1, O_words ok _ (b c hc).2⟩) 1
theorem log_sm {p : PP} {m most : Nat} {M : PM} (ok : p.Ok m) (hm6 : most ≤ 6) (h : AtRest p most M) : smB 6 (.tuple (M.lg.map wrD)) = true := by
  have l := h.lro
  have l1 : M.lg.length ≤ M.lro most := Nat.le_add_right _ _
  refine env_sm ok (by omega) (fun c hc => ?_) 3
  obtain ⟨a, b⟩ := h.good.lg c hc
  exact ⟨ok.nn.good _ (List.mem_append_right _ a), O_words ok _ b⟩
theorem begD_sm {p : PP} {m most : Nat} {M : PM} (ok : p.Ok m) (hm6 : most ≤ 6) (h : AtRest p most M) : smB 7 (begD M) = true := sm_two (restD_sm ok h.good) (log_sm ok hm6 h)
theorem ans_lay {most k : Nat} {o : Option PyData} (hk : k ≤ 20) (h : ∀ d, o = some d → smB (k + 1) d = true) : (ansD most o).canLay0 = true ∧ (ansD most o).depth ≤ 60 := by
  have key : smB (k + 2) (ansD most o) = true := by
    cases o with
    | none => exact sm_two (sm_of_str (by decide +kernel) (by decide +kernel)) rfl
    | some d => exact sm_two (sm_of_str (by decide +kernel) (by decide +kernel)) (h d rfl)
  obtain ⟨a, b⟩ := sm_lay _ _ key
  exact ⟨a, by omega⟩
/-- what a step tells: data that can be laid, its standing ahead -/
theorem step_facts {p : PP} {m most : Nat} {ws : List Str} {nt : List (Option Td.Env)} {de : De} {d : PyData} (ok : p.Ok m) (hm : m ≤ 16) (hm6 : most ≤ 6) (g : (atR ws nt).Good p) (n : ∀ o ∈ nt, o ≠ none) (hde : de.Of p) (e : stepF p most (atR ws nt) de = some d) :
    smB 7 d = true ∧ ∃ (ws' : List Str) (nt' : List (Option Td.Env)) (r : List PyData), d = .tuple (restD (atR ws' nt') :: r) ∧ (atR ws' nt').Good p ∧ ∀ o ∈ nt', o ≠ none := by
  have mv : ∀ wr : Td.Env, (∀ c ∈ wr, c.1 ∈ p.sources ∧ c.2 ∈ p.words) → (movF p most (atR ws nt) wr).map stepD = some d → smB 7 d = true ∧ ∃ (ws' : List Str) (nt' : List (Option Td.Env)) (r : List PyData), d = .tuple (restD (atR ws' nt') :: r) ∧ (atR ws' nt').Good p ∧ ∀ o ∈ nt', o ≠ none := fun wr hw e => by
    obtain ⟨M', e1, rfl⟩ := Option.map_eq_some_iff.mp e
    have h := mov_rest ok hm g n hw e1
    refine ⟨sm_of_tup (by show 3 ≤ 100; decide) fun x hx => ?_, M'.ws, M'.nt, _, rfl, ⟨h.good.wl, h.good.ww, h.good.nl, h.good.nn, (fun c hc => nomatch hc), (fun c hc => nomatch hc)⟩, h.nn⟩
    simp only [List.mem_cons, List.not_mem_nil, or_false] at hx
    rcases hx with rfl | rfl | rfl
    · exact restD_sm ok h.good
    · rfl
    · exact log_sm ok hm6 h
  cases de with
  | rd c =>
    cases e
    refine ⟨sm_of_tup (by show 3 ≤ 100; decide) fun x hx => ?_, ws, nt, _, rfl, g, n⟩
    simp only [List.mem_cons, List.not_mem_nil, or_false] at hx
    rcases hx with rfl | rfl | rfl
    · exact restD_sm ok g
    · exact sm_of_nm (O_words ok _ (known_in ok g.wl g.ww c hde))
    · exact sm_of_tup (k := 5) (Nat.zero_le _) (fun x hx => nomatch hx)
  | wr s w => exact mv [(s, w)] (fun c hc => by rw [List.mem_singleton.mp hc]; exact hde) e
  | bt ps => exact mv ps hde.2.2.1 e
theorem bad_lay {K : PySem.W.Frag} {H : Hp} {p : PP} {v : V} {d : PyData} {z : Str} (hz : PyData.strOk z = true) (h : BadW K H p v d) : (PyData.tuple [.str z, d]).canLay0 = true ∧ (PyData.tuple [.str z, d]).depth ≤ 60 := by
  have s := h.sh
  have dp := h.dep
  unfold SeqAt.shaped at s
  rw [Bool.and_eq_true] at s
  refine ⟨?_, ?_⟩
  · simp only [PyData.canLay0, PyData.canLayAll0, hz, s.1, Bool.and_self]
  · simp only [PyData.depth, PyData.depthAll]
    omega
def spLaw (K : PySem.W.Frag) : Sp := fun vs H Q _ => ∃ (a : Addr) (ns : List Int), vs = [.ref a] ∧ SqL K H a (ns.map V.int) ∧ ns.length ≤ 63 ∧ ∀ H', Q (.bl true) H'
section
variable {P : Program} {w : World} {K : PySem.W.Frag} {mg : Str → Option Value} {base : Heap}
theorem ok_law (T : Tops w K mg) (G__law_state : FnOk P w K mg base CX0 1 T.a__law_state T.d__law_state ["_law_script"] (spState K))
    (G__law_draw : FnOk P w K mg base CX0 1 T.a__law_draw T.d__law_draw ["_law_state_here", "_law_many_here"] spDraw)
    (G__law_parts : FnOk P w K mg base CX0 11 T.a__law_parts T.d__law_parts ["_law_state_here", "_law_sizes", "_law_peeks", "_law_writes"] (spParts K))
    (G__law_program : FnOk P w K mg base CX0 12 T.a__law_program T.d__law_program ["_law_parts_here"] (spMade K T.c_Program))
    (G__law_words : FnOk P w K mg base CX0 2 T.a__law_words T.d__law_words ["_law_state_here", "_law_parts_here"] (spLawWords K))
    (G__law_wrong_words : FnOk P w K mg base CX0 2 T.a__law_wrong_words T.d__law_wrong_words ["_law_state_here", "_law_words_here"] (spWrong K))
    (G__law_plain_start : FnOk P w K mg base CX0 14 T.a__law_plain_start T.d__law_plain_start ["_law_program_here", "_law_words_here", "_law_bound"] (spPStart K T.c_Program))
    (G__law_plain_begin : FnOk P w K mg base CX0 9 T.a__law_plain_begin T.d__law_plain_begin ["_law_parts_here", "_law_words_here", "_law_bound"] (spLBegin K))
    (G__law_deed : FnOk P w K mg base CX0 2 T.a__law_deed T.d__law_deed ["_law_state_here", "_law_parts_here"] (spDeed K))
    (G__law_plain_step : FnOk P w K mg base CX0 9 T.a__law_plain_step T.d__law_plain_step ["_law_parts_here", "_law_here", "_law_deed_here", "_law_bound"] (spLStep K))
    (G__law_plain_deed : FnOk P w K mg base CX0 14 T.a__law_plain_deed T.d__law_plain_deed ["_law_program_here", "_law_here", "_law_deed_here", "_law_bound"] (spPDeed K T.c_Program))
    (G__law_no_deed : FnOk P w K mg base CX0 2 T.a__law_no_deed T.d__law_no_deed ["_law_state_here", "_law_parts_here"] (spNoDeed K)) :
    FnOk P w K mg base CX0 15 T.a_law T.d_law ["_law_script"] (spLaw K) := by
  refine T.F_law.ok sc_law (fun vs H Q E h => ?_) (fun cdv AR outer s H vs Q E hr h => ?_)
  · obtain ⟨a, ns, rfl, _⟩ := h
    rfl
  obtain ⟨a, ns, rfl, hN, hlen, q⟩ := h
  refine ⟨_, (pss_cons (ps_set (i := 1) sc_law.nd rfl (Or.inl rfl) (pe_call G__law_state (hr.mono (by omega)) rfl T.m__law_state T.F__law_state.kp T.b__law_state .nil pass0 (pa_cons (pv 0) pa_nil)))
    (pss_cons (ps_set (i := 2) sc_law.nd rfl (Or.inl rfl) (pe_op op_add pe_int (pe_call G__law_draw (hr.mono (by omega)) rfl T.m__law_draw T.F__law_draw.kp T.b__law_draw .nil pass0 (pa_cons (pv 1) (pa_cons pe_int pa_nil)))))
    (pss_cons (ps_set (i := 3) sc_law.nd rfl (Or.inl rfl) (pe_call G__law_draw (hr.mono (by omega)) rfl T.m__law_draw T.F__law_draw.kp T.b__law_draw .nil pass0 (pa_cons (pv 1) (pa_cons pe_int pa_nil))))
    (pss_cons (ps_set (i := 4) sc_law.nd rfl (Or.inl rfl) (pe_call G__law_parts (hr.mono (by omega)) rfl T.m__law_parts T.F__law_parts.kp T.b__law_parts .nil pass0 (pa_cons (pv 1) (pa_cons (pe_tup (pa_cons pe_int (pa_cons pe_int (pa_cons pe_int (pa_cons pe_int (pa_cons pe_int pa_nil)))))) (pa_cons pe_bl (pa_cons pe_bl pa_nil))))))
    (pss_cons (ps_set (i := 5) sc_law.nd rfl (Or.inl rfl) (pe_call G__law_program (hr.mono (by omega)) rfl T.m__law_program T.F__law_program.kp T.b__law_program .nil pass0 (pa_cons (pv 4) pa_nil)))
    (pss_cons (ps_set (i := 6) sc_law.nd rfl (Or.inl rfl) (pe_call G__law_words (hr.mono (by omega)) rfl T.m__law_words T.F__law_words.kp T.b__law_words .nil pass0 (pa_cons (pv 1) (pa_cons (pv 4) pa_nil))))
    (pss_cons (ps_set (i := 7) sc_law.nd rfl (Or.inl rfl) (pe_call G__law_wrong_words (hr.mono (by omega)) rfl T.m__law_wrong_words T.F__law_wrong_words.kp T.b__law_wrong_words .nil pass0 (pa_cons (pv 1) (pa_cons (pv 6) pa_nil))))
    (pss_cons (ps_if (pt_cmpR (op_neD hr.units) (pe_call G__law_plain_start (hr.mono (by omega)) rfl T.m__law_plain_start T.F__law_plain_start.kp T.b__law_plain_start .nil pass0 (pa_cons (pv 5) (pa_cons (pv 7) (pa_cons (pv 2) pa_nil)))) (pe_tup (pa_cons pe_str (pa_cons (pv 7) pa_nil))) (nomark _)) (pss_one (ps_ret pe_bl)) pss_nil)
    (pss_cons (ps_set (i := 8) sc_law.nd rfl (Or.inl rfl) (pe_call G__law_plain_begin (hr.mono (by omega)) rfl T.m__law_plain_begin T.F__law_plain_begin.kp T.b__law_plain_begin .nil pass0 (pa_cons (pv 4) (pa_cons (pv 6) (pa_cons (pv 2) pa_nil)))))
    (pss_cons (ps_if (pt_cmpR (op_neD hr.units) (pe_call G__law_plain_start (hr.mono (by omega)) rfl T.m__law_plain_start T.F__law_plain_start.kp T.b__law_plain_start .nil pass0 (pa_cons (pv 5) (pa_cons (pv 6) (pa_cons (pv 2) pa_nil)))) (pv 8) (nomark _)) (pss_one (ps_ret pe_bl)) pss_nil)
    (pss_cons (ps_if (pt_cmpR op_eq (pe_ix ix_tup (pv 8) pe_int (fun _ _ => rfl)) pe_str (nomark _)) (pss_one (ps_ret pe_bl)) pss_nil)
    (pss_cons (ps_set (i := 9) sc_law.nd rfl (Or.inl rfl) (pe_ix ix_tup (pe_ix ix_tup (pv 8) pe_int (fun _ _ => rfl)) pe_int (fun _ _ => rfl)))
    (pss_cons (ps_for PassesOwn.never rfl (pi_range1 rfl T.z_range (pa_cons (pv 3) pa_nil)) (pg_name (i := 10) sc_law.nd rfl (Or.inl rfl)) (pss_cons (ps_set (i := 11) sc_law.nd rfl (Or.inl rfl) (pe_call G__law_deed (hr.mono (by omega)) rfl T.m__law_deed T.F__law_deed.kp T.b__law_deed .nil pass0 (pa_cons (pv 1) (pa_cons (pv 4) pa_nil))))
    (pss_cons (ps_set (i := 8) sc_law.nd rfl (Or.inl rfl) (pe_call G__law_plain_step (hr.mono (by omega)) rfl T.m__law_plain_step T.F__law_plain_step.kp T.b__law_plain_step .nil pass0 (pa_cons (pv 4) (pa_cons (pv 9) (pa_cons (pv 11) (pa_cons (pv 2) pa_nil))))))
    (pss_cons (ps_if (pt_cmpR (op_neD hr.units) (pe_call G__law_plain_deed (hr.mono (by omega)) rfl T.m__law_plain_deed T.F__law_plain_deed.kp T.b__law_plain_deed .nil pass0 (pa_cons (pv 5) (pa_cons (pv 9) (pa_cons (pv 11) (pa_cons (pv 2) pa_nil))))) (pv 8) (nomark _)) (pss_one (ps_ret pe_bl)) pss_nil)
    (pss_one (ps_if (pt_cmpR op_eq (pe_ix ix_tup (pv 8) pe_int (fun _ _ => rfl)) pe_str (nomark _)) (pss_one (ps_set (i := 9) sc_law.nd rfl (Or.inl rfl) (pe_ix ix_tup (pe_ix ix_tup (pv 8) pe_int (fun _ _ => rfl)) pe_int (fun _ _ => rfl)))) pss_nil))))))
    (pss_cons (ps_set (i := 7) sc_law.nd rfl (Or.inl rfl) (pe_call G__law_no_deed (hr.mono (by omega)) rfl T.m__law_no_deed T.F__law_no_deed.kp T.b__law_no_deed .nil pass0 (pa_cons (pv 1) (pa_cons (pv 4) pa_nil))))
    (pss_one (ps_ret (pe_cmpR (op_eqD hr.units) (pe_call G__law_plain_deed (hr.mono (by omega)) rfl T.m__law_plain_deed T.F__law_plain_deed.kp T.b__law_plain_deed .nil pass0 (pa_cons (pv 5) (pa_cons (pv 9) (pa_cons (pv 7) (pa_cons (pv 2) pa_nil))))) (pe_tup (pa_cons pe_str (pa_cons (pv 7) pa_nil))) (nomark _)))))))))))))))))), ?_⟩
  refine ⟨_, rfl, a, ns, rfl, hN, hlen, fun st sc H1 s1 f1 f2 o1 => ?_⟩
  refine ⟨_, rfl, st, sc, 6, rfl, by decide, by decide, o1, fun r H2 r0 r1 k2 o2 _ => ⟨_, _, rfl, rfl, ?_⟩⟩
  obtain ⟨most, hmost⟩ : ∃ most : Nat, (1 : Int) + r = (most : Nat) := ⟨(1 + r).toNat, by omega⟩
  dsimp only
  rw [hmost]
  have hm1 : 1 ≤ most := by omega
  have hm6 : most ≤ 6 := by omega
  refine ⟨_, rfl, st, sc, 7, rfl, by decide, by decide, o2, fun rr H2b r0b r1b k2b o2b _ => ?_⟩
  obtain ⟨n, rfl⟩ : ∃ n : Nat, rr = (n : Nat) := ⟨rr.toNat, by omega⟩
  refine ⟨_, rfl, by show 5 ≤ sizeLine; decide, fun z hz => ?_⟩
  have w2 := Same.new hz (.tup [V.int 2, .int 3, .int 3, .int 3, .int 7])
  refine ⟨st, sc, z, 2, 3, 3, 3, 7, true, true, rfl, stGo o2b w2, SqT.of upd_same, (o2b.ne hz).1, by decide, by decide, by decide, by decide, by decide, by decide, by decide, by decide, by decide, by decide, fun v p H3 k3 o3 ok0 hsrc hX => ?_⟩
  have ok : p.Ok 8 := ok0
  have hm : 8 ≤ 16 := by decide
  refine ⟨_, rfl, v, p, 8, rfl, Td.DataX.tn hX, ok, hm, fun pa H4 s4 npa hP => ?_⟩
  have o4 := stGo o3 s4
  have nps : pa ≠ st := (o3.ne npa).1
  have hX4 : partsX K H4 v p := DataX.same s4 hX
  refine ⟨_, rfl, _, rfl, st, sc, v, p, 8, rfl, o4, Td.DataX.tn hX4, ok, fun wa ws H5 k5 o5 hW wl ww => ?_⟩
  have hX5 := DataX.keepS hX4 k5 o4
  have hP5 := hP.keep k5 nps o4.chg
  refine ⟨_, rfl, _, rfl, st, sc, wa, p, 8, ws, rfl, o5, hW, ok, wl, ww, fun wv wd H6 k6 o6 hB => ?_⟩
  have hX6 := DataX.keepS hX5 k6 o5
  have hP6 := hP5.keep k6 nps o5.chg
  have hW6 := SqT.tk (TK.of_keep k6 o5.chg) hW
  -- wrong words
  refine ⟨_, rfl, _, rfl, _, rfl, pa, wv, p, 8, most, rfl, hP6, ok, hm, hm1, hm6, .inr ⟨wd, hB, fun t H7 s7 ht => ⟨_, rfl, by show 2 ≤ sizeLine; decide, fun t2 ht2 => ?_⟩⟩⟩
  have z2 := Same.new ht2 (.tup [V.str "start", wv])
  obtain ⟨lay1, dep1⟩ := bad_lay (z := "start") (by decide +kernel) hB
  refine ne_same (d := .tuple [.str "start", wd]) (.tup (SqT.same z2 ht) (.cons (.str _) (.cons (Dp.same (s7.trans z2) hB.dp) .nil))) (.tup (SqT.of upd_same) (.cons (.str _) (.cons (Dp.same (s7.trans z2) hB.dp) .nil))) lay1 dep1 ⟨_, rfl, if_false_of rfl ?_⟩
  have s68 := s7.trans z2
  generalize upd H7 t2 (.tup [V.str "start", wv]) = H8 at s68
  -- the start
  have hX8 : partsX K H8 v p := DataX.same s68 hX6
  have hP8 := hP6.same s68
  have hW8 := SqT.same s68 hW6
  have o8 := stGo o6 s68
  refine ⟨_, rfl, _, rfl, _, rfl, v, wa, ws, p, 8, most, rfl, hX8, ok, hm, hm1, hm6, hW8, wl, ww, fun dv H9 s9 hdv => ?_⟩
  refine ⟨_, rfl, _, rfl, _, rfl, pa, .ref wa, p, 8, most, rfl, hP8.same s9, ok, hm, hm1, hm6, .inl ⟨wa, ws, rfl, SqT.same s9 hW8, wl, ww, fun u H10 s10 hu => ⟨_, rfl, ?_⟩⟩⟩
  obtain ⟨lay2, dep2⟩ := ans_lay (most := most) (k := 6) (o := (begF p most ws).map begD) (by decide) fun d e => by
    obtain ⟨M', e1, rfl⟩ := Option.map_eq_some_iff.mp e
    exact begD_sm ok hm6 (beg_rest ok hm wl ww e1)
  have hdv10 := Tn.same s10 hdv
  refine ne_same hu.dp hdv10.dp lay2 dep2 ⟨_, rfl, if_false_of rfl ?_⟩
  have s8A := s9.trans s10
  have oA := stGo o8 s8A
  have hXA : partsX K H10 v p := DataX.same s8A hX8
  have hPA := hP8.same s8A
  cases hb : begF p most ws with
  | none =>
    rw [hb] at hdv10
    obtain ⟨da, dx, rfl, hDS, hDX⟩ := Tn.tup_inv hdv10
    obtain ⟨d1, rfl⟩ : ∃ d1, dx = [.str "long", d1] := by
      cases hDX with
      | cons x1 x2 => cases x1; cases x2 with | cons x3 x4 => cases x4; exact ⟨_, rfl⟩
    exact ⟨_, rfl, da, _, 0, _, rfl, rfl, hDS, rfl, rfl, _, rfl, if_true_of (by decide +kernel) (q _)⟩
  | some M' =>
  rw [hb] at hdv10
  have hAR := beg_rest ok hm wl ww hb
  obtain ⟨da, dx, rfl, hDS, hDX⟩ := Tn.tup_inv hdv10
  obtain ⟨d1, rfl, hD1⟩ : ∃ d1, dx = [.str "told", d1] ∧ Tn K H10 d1 (begD M') := by
    cases hDX with
    | cons x1 x2 => cases x1; cases x2 with | cons x3 x4 => cases x4; exact ⟨_, rfl, x3⟩
  refine ⟨_, rfl, da, _, 0, _, rfl, rfl, hDS, rfl, rfl, _, rfl, if_false_of (by decide +kernel) ?_⟩
  obtain ⟨ba, bx, rfl, hBS, hBX⟩ := Tn.tup_inv hD1
  obtain ⟨hv0, lv, rfl, hH0⟩ : ∃ hv0 lv, bx = [hv0, lv] ∧ Tn K H10 hv0 (restD M') := by
    cases hBX with
    | cons x1 x2 => cases x2 with | cons x3 x4 => cases x4; exact ⟨_, _, rfl, x1⟩
  refine ⟨_, rfl, da, _, 1, _, rfl, rfl, hDS, rfl, ba, _, 0, _, rfl, rfl, hBS, rfl, ?_⟩
  have g0 : (atR M'.ws M'.nt).Good p := ⟨hAR.good.wl, hAR.good.ww, hAR.good.nl, hAR.good.nn, (fun c hc => nomatch hc), (fun c hc => nomatch hc)⟩
  refine ⟨_, rfl, (n : Nat), rfl, by omega, by omega, for_range (lo := 0) (n := ((n : Nat) : Int).toNat)
    (fun i σ H' => ∃ (v8 hv : V) (v10 v11 : Option V) (ws' : List Str) (nt' : List (Option Td.Env)), σ = [some (.ref a), some (.ref st), some (.int (most : Nat)), some (.int (n : Nat)), some v, some (.ref pa), some (.ref wa), some wv, some v8, some hv, v10, v11] ∧ Keep st H10 H' ∧ StOk H' st sc ∧
      Tn K H' hv (restD (atR ws' nt')) ∧ (atR ws' nt').Good p ∧ ∀ o ∈ nt', o ≠ none)
    ⟨_, hv0, none, none, M'.ws, M'.nt, rfl, Keep.refl _ _, oA, hH0, g0, hAR.nn⟩ ?_ ?_⟩
  · rintro i σ H11 hi ⟨v8, hv, v10, v11, ws', nt', rfl, k11, o11, hH, hg, hnn⟩
    have hX11 := DataX.keepS hXA k11 oA
    have hP11 := hPA.keep k11 nps oA.chg
    refine ⟨_, rfl, _, rfl, st, sc, v, p, 8, rfl, o11, Td.DataX.tn hX11, ok, fun ev de H12 k12 o12 hde hev => ?_⟩
    have hX12 := DataX.keepS hX11 k12 o11
    have hP12 := hP11.keep k12 nps o11.chg
    have hH12 := Tn.keep (TK.of_keep k12 o11.chg) hH
    refine ⟨_, rfl, _, rfl, _, rfl, _, rfl, v, hv, ev, ws', nt', de, p, 8, most, rfl, hX12, ok, hm, hm1, hm6, hH12, hg, hnn, hde, hev, fun u H13 s13 hu => ?_⟩
    have o13 := stGo o12 s13
    refine ⟨_, rfl, _, rfl, _, rfl, _, rfl, pa, hv, ev, p, 8, most, rfl, hP12.same s13, ok, hm, hm1, hm6, .inr ⟨ws', nt', de, Tn.same s13 hH12, hg, hde, Tn.same s13 hev, fun u2 H14 s14 hu2 => ⟨_, rfl, ?_⟩⟩⟩
    have k14 := (k11.trans k12).trans (K68.Keep.of_same (s13.trans s14))
    have o14 := stGo o13 s14
    have hH14 := Tn.same (s13.trans s14) hH12
    have hu14 := Tn.same s14 hu
    cases hs : stepF p most (atR ws' nt') de with
    | none =>
      rw [hs] at hu14 hu2
      obtain ⟨lay3, dep3⟩ := ans_lay (most := most) (k := 0) (o := none) (by decide) (fun d e => nomatch e)
      refine ne_same hu2.dp hu14.dp lay3 dep3 ⟨_, rfl, if_false_of rfl ?_⟩
      obtain ⟨ua, ux, rfl, hUS, hUX⟩ := Tn.tup_inv hu14
      obtain ⟨u1, rfl⟩ : ∃ u1, ux = [.str "long", u1] := by
        cases hUX with
        | cons x1 x2 => cases x1; cases x2 with | cons x3 x4 => cases x4; exact ⟨_, rfl⟩
      exact ⟨_, rfl, ua, _, 0, _, rfl, rfl, hUS, rfl, rfl, _, rfl, if_false_of (by decide +kernel) ⟨_, hv, _, _, ws', nt', rfl, k14, o14, hH14, hg, hnn⟩⟩
    | some d =>
      rw [hs] at hu14 hu2
      obtain ⟨sm, ws2, nt2, rest, rfl, hg2, hn2⟩ := step_facts ok hm hm6 hg hnn hde hs
      obtain ⟨lay3, dep3⟩ := ans_lay (most := most) (k := 6) (o := some (.tuple (restD (atR ws2 nt2) :: rest))) (by decide) (fun d e => by cases e; exact sm)
      refine ne_same hu2.dp hu14.dp lay3 dep3 ⟨_, rfl, if_false_of rfl ?_⟩
      obtain ⟨ua, ux, rfl, hUS, hUX⟩ := Tn.tup_inv hu14
      obtain ⟨u1, rfl, hU1⟩ : ∃ u1, ux = [.str "told", u1] ∧ Tn K H14 u1 (.tuple (restD (atR ws2 nt2) :: rest)) := by
        cases hUX with
        | cons x1 x2 => cases x1; cases x2 with | cons x3 x4 => cases x4; exact ⟨_, rfl, x3⟩
      refine ⟨_, rfl, ua, _, 0, _, rfl, rfl, hUS, rfl, rfl, _, rfl, if_true_of (by decide +kernel) ?_⟩
      obtain ⟨ca, cx, rfl, hCS, hCX⟩ := Tn.tup_inv hU1
      obtain ⟨hv2, cr, rfl, hH2⟩ : ∃ hv2 cr, cx = hv2 :: cr ∧ Tn K H14 hv2 (restD (atR ws2 nt2)) := by
        cases hCX with
        | cons x1 x2 => exact ⟨_, _, rfl, x1⟩
      exact ⟨_, rfl, ua, _, 1, _, rfl, rfl, hUS, rfl, ca, _, 0, _, rfl, rfl, hCS, atI_nat (j := 0) rfl, ⟨_, hv2, _, _, ws2, nt2, rfl, k14, o14, hH2, hg2, hn2⟩⟩
  rintro σ H11 ⟨v8, hv, v10, v11, ws', nt', rfl, k11, o11, hH, hg, hnn⟩
  have hX11 := DataX.keepS hXA k11 oA
  have hP11 := hPA.keep k11 nps oA.chg
  refine ⟨_, rfl, _, rfl, st, sc, v, p, 8, rfl, o11, Td.DataX.tn hX11, ok, fun ev d H12 k12 o12 hev hsm hno => ?_⟩
  have hP12 := hP11.keep k12 nps o11.chg
  refine ⟨_, rfl, _, rfl, _, rfl, _, rfl, pa, hv, ev, p, 8, most, rfl, hP12, ok, hm, hm1, hm6, .inl ⟨d, 12, hev, hsm, by decide, hno, fun t H13 s13 ht => ⟨_, rfl, by show 2 ≤ sizeLine; decide, fun t2 ht2 => ?_⟩⟩⟩
  have z3 := Same.new ht2 (.tup [V.str "deed", ev])
  have key : smB 13 (.tuple [.str "deed", d]) = true := sm_two (sm_of_str (by decide +kernel) (by decide +kernel)) hsm
  obtain ⟨lay4, dep4⟩ := sm_lay _ _ key
  exact eq_same (d := .tuple [.str "deed", d]) (.tup (SqT.same z3 ht) (.cons (.str _) (.cons (Dp.same (s13.trans z3) hev) .nil))) (.tup (SqT.of upd_same) (.cons (.str _) (.cons (Dp.same (s13.trans z3) hev) .nil))) lay4 (by omega) (q _)
end
end K68
namespace K68
open PySem PySem.Spec PyProof.Rows L2 Td
theorem law_of {w : World} {K : PySem.W.Frag} {mg : Str → Option Value} {base : Heap} (T : Tops w K mg) : FnOk PySem.Challenge.pw_toldonward_k68_whole_plain_machine w K mg base CX0 15 T.a_law T.d_law ["_law_script"] (spLaw K) := by
  have draw := ok_draw (P := PySem.Challenge.pw_toldonward_k68_whole_plain_machine) (base := base) T
  have nms := ok_names (P := PySem.Challenge.pw_toldonward_k68_whole_plain_machine) (base := base) T draw
  have row := ok_row (P := PySem.Challenge.pw_toldonward_k68_whole_plain_machine) (base := base) T draw
  have rows := ok_rows T draw row (ok_many T 5) 5
  have parts := ok_parts T draw nms rows
  have sta := ok_state (P := PySem.Challenge.pw_toldonward_k68_whole_plain_machine) (base := base) T
  have isn := ok_is_name (P := PySem.Challenge.pw_toldonward_k68_whole_plain_machine) (base := base) T
  have arn := ok_are_names T isn
  have nps := ok_named_pairs T isn
  have nof := ok_names_of (P := PySem.Challenge.pw_toldonward_k68_whole_plain_machine) (base := base) T
  have fits := fit_held T (ok_read T isn) (ok_put T isn) (ok_slot T isn) (ok_write T isn) (ok_if T isn)
  have fst := ok_first T (ok_valid T fits (ok_check_of T)) 4
  have bod := ok_check_body T fst (ok_paths T 4)
  have bds := ok_check_bodies T bod (ok_scope T)
  have prg := ok_program T (ok_check_parts T arn nps nof) bds nof
  have wi := ok_word_in (P := PySem.Challenge.pw_toldonward_k68_whole_plain_machine) (base := base) T
  have acts := fitA_held T (ok_do_read T) (ok_do_peek T) (ok_do_put T) (ok_do_write T wi) (ok_do_say T wi)
  have truly := ok_truly T (ok_true_run_init T) (ok_do_rows T acts wi 4)
  have kno := ok_known T truly
  have pof := ok_parts_of (P := PySem.Challenge.pw_toldonward_k68_whole_plain_machine) (base := base) T
  have now_ := ok_words_now (P := PySem.Challenge.pw_toldonward_k68_whole_plain_machine) (base := base) T
  have tnow := ok_true_now T now_ kno
  have rest := ok_at_rest T now_
  have ini := ok_plain_init (P := PySem.Challenge.pw_toldonward_k68_whole_plain_machine) (base := base) T
  have look := ok_look T tnow truly pof (ok_TooManyRuns T)
  have wrt := ok_write_together T look
  have wof := ok_work_off T wrt
  have cmo := ok_check_most T (ok_check_bound T (ok_is_integer (P := PySem.Challenge.pw_toldonward_k68_whole_plain_machine) (base := base) T))
  have iS := ok_InvalidStart (P := PySem.Challenge.pw_toldonward_k68_whole_plain_machine) (base := base) T
  have chk : FnOk PySem.Challenge.pw_toldonward_k68_whole_plain_machine w K mg base (L2.CX PySem.Challenge.pw_toldonward_k68_whole_plain_machine w) 3 T.a_check_start T.d_check_start ["program", "words"] (spCheck K T.c_Program T.c_InvalidStart) := both (calm_in ((ok_start T (ok_is_start T)).mono (by decide))) (ok_check_bad T (ok_is_bad T) iS)
  have beg := ok_plain_begin T cmo chk ini look wof rest
  have isw := ok_is_write (P := PySem.Challenge.pw_toldonward_k68_whole_plain_machine) (base := base) T
  have isd := ok_is_deed T isw (ok_is_batch T isw) (ok_cells T)
  have stp := ok_plain_step T cmo isd (ok_InvalidDeed T) ini tnow wrt wof rest
  have eff := ok_effect (P := PySem.Challenge.pw_toldonward_k68_whole_plain_machine) (base := base) T 4
  have tru := ok_law_true T (ok_give (P := PySem.Challenge.pw_toldonward_k68_whole_plain_machine) (base := base) T 4)
  have lrun := ok_lrun T eff tru
  have lwr := ok_lwrite T lrun tru
  have lre := ok_lrest T lwr
  exact ok_law T sta draw parts (ok_law_program T prg) (ok_law_words T draw) (ok_wrong T draw) (ok_pstart T beg) (ok_lbegin T lre lrun) (ok_law_deed T draw) (ok_lstep T lre lwr tru) (ok_pdeed T stp) (ok_no_deed T draw)
abbrev D_is_integer : He.DefD := ⟨("is_integer", none), "is_integer", "is_integer", defArgs s_is_integer, defBody s_is_integer, defScope s_is_integer, [], []⟩
abbrev D_is_name : He.DefD := ⟨("is_name", none), "is_name", "is_name", defArgs s_is_name, defBody s_is_name, defScope s_is_name, [], []⟩
abbrev D_are_names : He.DefD := ⟨("are_names", none), "are_names", "are_names", defArgs s_are_names, defBody s_are_names, defScope s_are_names, [], []⟩
abbrev D_are_named_pairs : He.DefD := ⟨("are_named_pairs", none), "are_named_pairs", "are_named_pairs", defArgs s_are_named_pairs, defBody s_are_named_pairs, defScope s_are_named_pairs, [], []⟩
abbrev D_InvalidProgram_init : He.DefD := ⟨("InvalidProgram", some "__init__"), "__init__", "InvalidProgram.__init__", defArgs s_InvalidProgram_init, defBody s_InvalidProgram_init, defScope s_InvalidProgram_init, [], []⟩
abbrev D_InvalidStart_init : He.DefD := ⟨("InvalidStart", some "__init__"), "__init__", "InvalidStart.__init__", defArgs s_InvalidStart_init, defBody s_InvalidStart_init, defScope s_InvalidStart_init, [], []⟩
abbrev D_InvalidDeed_init : He.DefD := ⟨("InvalidDeed", some "__init__"), "__init__", "InvalidDeed.__init__", defArgs s_InvalidDeed_init, defBody s_InvalidDeed_init, defScope s_InvalidDeed_init, [], []⟩
abbrev D_InvalidBound_init : He.DefD := ⟨("InvalidBound", some "__init__"), "__init__", "InvalidBound.__init__", defArgs s_InvalidBound_init, defBody s_InvalidBound_init, defScope s_InvalidBound_init, [], []⟩
abbrev D_UnknownCell_init : He.DefD := ⟨("UnknownCell", some "__init__"), "__init__", "UnknownCell.__init__", defArgs s_UnknownCell_init, defBody s_UnknownCell_init, defScope s_UnknownCell_init, [], []⟩
abbrev D_TooManyRuns_init : He.DefD := ⟨("TooManyRuns", some "__init__"), "__init__", "TooManyRuns.__init__", defArgs s_TooManyRuns_init, defBody s_TooManyRuns_init, defScope s_TooManyRuns_init, [], []⟩
abbrev D_check_bound : He.DefD := ⟨("check_bound", none), "check_bound", "check_bound", defArgs s_check_bound, defBody s_check_bound, defScope s_check_bound, [], []⟩
abbrev D_check_most : He.DefD := ⟨("check_most", none), "check_most", "check_most", defArgs s_check_most, defBody s_check_most, defScope s_check_most, [], []⟩
abbrev D_Record_init : He.DefD := ⟨("Record", some "__init__"), "__init__", "Record.__init__", defArgs s_Record_init, defBody s_Record_init, defScope s_Record_init, [], []⟩
abbrev D_Record_parts : He.DefD := ⟨("TrueRun", some "parts"), "parts", "Record.parts", defArgs s_Record_parts, defBody s_Record_parts, defScope s_Record_parts, [], []⟩
abbrev D_TrueRun_word_in : He.DefD := ⟨("TrueRun", some "word_in"), "word_in", "TrueRun.word_in", defArgs s_TrueRun_word_in, defBody s_TrueRun_word_in, defScope s_TrueRun_word_in, [], []⟩
abbrev D_do_read : He.DefD := ⟨("do_read", none), "do_read", "do_read", defArgs s_do_read, defBody s_do_read, defScope s_do_read, [], []⟩
abbrev D_do_peek : He.DefD := ⟨("do_peek", none), "do_peek", "do_peek", defArgs s_do_peek, defBody s_do_peek, defScope s_do_peek, [], []⟩
abbrev D_do_put : He.DefD := ⟨("do_put", none), "do_put", "do_put", defArgs s_do_put, defBody s_do_put, defScope s_do_put, [], []⟩
abbrev D_do_write : He.DefD := ⟨("do_write", none), "do_write", "do_write", defArgs s_do_write, defBody s_do_write, defScope s_do_write, [], []⟩
abbrev D_do_say : He.DefD := ⟨("do_say", none), "do_say", "do_say", defArgs s_do_say, defBody s_do_say, defScope s_do_say, [], []⟩
abbrev D_do_rows : He.DefD := ⟨("do_rows", none), "do_rows", "do_rows", defArgs s_do_rows, defBody s_do_rows, defScope s_do_rows, [], []⟩
abbrev D_run_truly : He.DefD := ⟨("run_truly", none), "run_truly", "run_truly", defArgs s_run_truly, defBody s_run_truly, defScope s_run_truly, [], []⟩
abbrev D_is_start : He.DefD := ⟨("is_start", none), "is_start", "is_start", defArgs s_is_start, defBody s_is_start, defScope s_is_start, [], []⟩
abbrev D_check_start : He.DefD := ⟨("check_start", none), "check_start", "check_start", defArgs s_check_start, defBody s_check_start, defScope s_check_start, [], []⟩
abbrev D_known_words : He.DefD := ⟨("known_words", none), "known_words", "known_words", defArgs s_known_words, defBody s_known_words, defScope s_known_words, [], []⟩
abbrev D_is_deed : He.DefD := ⟨("is_deed", none), "is_deed", "is_deed", defArgs s_is_deed, defBody s_is_deed, defScope s_is_deed, [], []⟩
abbrev D_is_write : He.DefD := ⟨("is_write", none), "is_write", "is_write", defArgs s_is_write, defBody s_is_write, defScope s_is_write, [], []⟩
abbrev D_is_batch : He.DefD := ⟨("is_batch", none), "is_batch", "is_batch", defArgs s_is_batch, defBody s_is_batch, defScope s_is_batch, [], []⟩
abbrev D_PlainMachine_init : He.DefD := ⟨("PlainMachine", some "__init__"), "__init__", "PlainMachine.__init__", defArgs s_PlainMachine_init, defBody s_PlainMachine_init, defScope s_PlainMachine_init, [], []⟩
abbrev D_PlainMachine_words_now : He.DefD := ⟨("PlainMachine", some "words_now"), "words_now", "PlainMachine.words_now", defArgs s_PlainMachine_words_now, defBody s_PlainMachine_words_now, defScope s_PlainMachine_words_now, [], []⟩
abbrev D_PlainMachine_true_now : He.DefD := ⟨("PlainMachine", some "true_now"), "true_now", "PlainMachine.true_now", defArgs s_PlainMachine_true_now, defBody s_PlainMachine_true_now, defScope s_PlainMachine_true_now, [], []⟩
abbrev D_PlainMachine_at_rest : He.DefD := ⟨("PlainMachine", some "at_rest"), "at_rest", "PlainMachine.at_rest", defArgs s_PlainMachine_at_rest, defBody s_PlainMachine_at_rest, defScope s_PlainMachine_at_rest, [], []⟩
abbrev D_PlainMachine_write_together : He.DefD := ⟨("PlainMachine", some "write_together"), "write_together", "PlainMachine.write_together", defArgs s_PlainMachine_write_together, defBody s_PlainMachine_write_together, defScope s_PlainMachine_write_together, [], []⟩
abbrev D_PlainMachine_look_at_effects : He.DefD := ⟨("PlainMachine", some "look_at_effects"), "look_at_effects", "PlainMachine.look_at_effects", defArgs s_PlainMachine_look_at_effects, defBody s_PlainMachine_look_at_effects, defScope s_PlainMachine_look_at_effects, [], []⟩
abbrev D_PlainMachine_work_off_waiting : He.DefD := ⟨("PlainMachine", some "work_off_waiting"), "work_off_waiting", "PlainMachine.work_off_waiting", defArgs s_PlainMachine_work_off_waiting, defBody s_PlainMachine_work_off_waiting, defScope s_PlainMachine_work_off_waiting, [], []⟩
abbrev D_plain_begin : He.DefD := ⟨("plain_begin", none), "plain_begin", "plain_begin", defArgs s_plain_begin, defBody s_plain_begin, defScope s_plain_begin, [], [("most", .int 200)]⟩
abbrev D_plain_step : He.DefD := ⟨("plain_step", none), "plain_step", "plain_step", defArgs s_plain_step, defBody s_plain_step, defScope s_plain_step, [], [("most", .int 200)]⟩
abbrev D_Scope_init : He.DefD := ⟨("Scope", some "__init__"), "__init__", "Scope.__init__", defArgs s_Scope_init, defBody s_Scope_init, defScope s_Scope_init, [], []⟩
abbrev D_is_read_row : He.DefD := ⟨("is_read_row", none), "is_read_row", "is_read_row", defArgs s_is_read_row, defBody s_is_read_row, defScope s_is_read_row, [], []⟩
abbrev D_is_put_row : He.DefD := ⟨("is_put_row", none), "is_put_row", "is_put_row", defArgs s_is_put_row, defBody s_is_put_row, defScope s_is_put_row, [], []⟩
abbrev D_is_if_row : He.DefD := ⟨("is_if_row", none), "is_if_row", "is_if_row", defArgs s_is_if_row, defBody s_is_if_row, defScope s_is_if_row, [], []⟩
abbrev D_is_slot_row : He.DefD := ⟨("is_slot_row", none), "is_slot_row", "is_slot_row", defArgs s_is_slot_row, defBody s_is_slot_row, defScope s_is_slot_row, [], []⟩
abbrev D_is_write_row : He.DefD := ⟨("is_write_row", none), "is_write_row", "is_write_row", defArgs s_is_write_row, defBody s_is_write_row, defScope s_is_write_row, [], []⟩
abbrev D_check_of : He.DefD := ⟨("check_of", none), "check_of", "check_of", defArgs s_check_of, defBody s_check_of, defScope s_check_of, [], []⟩
abbrev D_is_valid_row : He.DefD := ⟨("is_valid_row", none), "is_valid_row", "is_valid_row", defArgs s_is_valid_row, defBody s_is_valid_row, defScope s_is_valid_row, [], []⟩
abbrev D_first_wrong_path : He.DefD := ⟨("first_wrong_path", none), "first_wrong_path", "first_wrong_path", defArgs s_first_wrong_path, defBody s_first_wrong_path, defScope s_first_wrong_path, [], []⟩
abbrev D_paths_of_rows : He.DefD := ⟨("paths_of_rows", none), "paths_of_rows", "paths_of_rows", defArgs s_paths_of_rows, defBody s_paths_of_rows, defScope s_paths_of_rows, [], []⟩
abbrev D_Program_init : He.DefD := ⟨("Program", some "__init__"), "__init__", "Program.__init__", defArgs s_Program_init, defBody s_Program_init, defScope s_Program_init, [], []⟩
abbrev D_Program_eq : He.DefD := ⟨("Program", some "__eq__"), "__eq__", "Program.__eq__", defArgs s_Program_eq, defBody s_Program_eq, defScope s_Program_eq, [], []⟩
abbrev D_Program_cells : He.DefD := ⟨("Program", some "cells"), "cells", "Program.cells", defArgs s_Program_cells, defBody s_Program_cells, defScope s_Program_cells, [], []⟩
abbrev D_Program_derived_names : He.DefD := ⟨("Program", some "derived_names"), "derived_names", "Program.derived_names", defArgs s_Program_derived_names, defBody s_Program_derived_names, defScope s_Program_derived_names, [], []⟩
abbrev D_Program_effect_names : He.DefD := ⟨("Program", some "effect_names"), "effect_names", "Program.effect_names", defArgs s_Program_effect_names, defBody s_Program_effect_names, defScope s_Program_effect_names, [], []⟩
abbrev D_Program_body : He.DefD := ⟨("Program", some "body"), "body", "Program.body", defArgs s_Program_body, defBody s_Program_body, defScope s_Program_body, [], []⟩
abbrev D_Program_row_paths : He.DefD := ⟨("Program", some "row_paths"), "row_paths", "Program.row_paths", defArgs s_Program_row_paths, defBody s_Program_row_paths, defScope s_Program_row_paths, [], []⟩
abbrev D_Program_row_at : He.DefD := ⟨("Program", some "row_at"), "row_at", "Program.row_at", defArgs s_Program_row_at, defBody s_Program_row_at, defScope s_Program_row_at, [], []⟩
abbrev D_Program_with_row : He.DefD := ⟨("Program", some "with_row"), "with_row", "Program.with_row", defArgs s_Program_with_row, defBody s_Program_with_row, defScope s_Program_with_row, [], []⟩
abbrev D_names_of : He.DefD := ⟨("names_of", none), "names_of", "names_of", defArgs s_names_of, defBody s_names_of, defScope s_names_of, [], []⟩
abbrev D_check_parts : He.DefD := ⟨("check_parts", none), "check_parts", "check_parts", defArgs s_check_parts, defBody s_check_parts, defScope s_check_parts, [], []⟩
abbrev D_check_bodies : He.DefD := ⟨("check_bodies", none), "check_bodies", "check_bodies", defArgs s_check_bodies, defBody s_check_bodies, defScope s_check_bodies, [], []⟩
abbrev D_check_body : He.DefD := ⟨("check_body", none), "check_body", "check_body", defArgs s_check_body, defBody s_check_body, defScope s_check_body, [], []⟩
abbrev D_law_state : He.DefD := ⟨("_law_state", none), "_law_state", "_law_state", defArgs s_law_state, defBody s_law_state, defScope s_law_state, [], []⟩
abbrev D_law_draw : He.DefD := ⟨("_law_draw", none), "_law_draw", "_law_draw", defArgs s_law_draw, defBody s_law_draw, defScope s_law_draw, [], []⟩
abbrev D_law_names : He.DefD := ⟨("_law_names", none), "_law_names", "_law_names", defArgs s_law_names, defBody s_law_names, defScope s_law_names, [], []⟩
abbrev D_law_many : He.DefD := ⟨("_law_many", none), "_law_many", "_law_many", defArgs s_law_many, defBody s_law_many, defScope s_law_many, [], []⟩
abbrev D_law_row : He.DefD := ⟨("_law_row", none), "_law_row", "_law_row", defArgs s_law_row, defBody s_law_row, defScope s_law_row, [], []⟩
abbrev D_law_rows : He.DefD := ⟨("_law_rows", none), "_law_rows", "_law_rows", defArgs s_law_rows, defBody s_law_rows, defScope s_law_rows, [], []⟩
abbrev D_law_parts : He.DefD := ⟨("_law_parts", none), "_law_parts", "_law_parts", defArgs s_law_parts, defBody s_law_parts, defScope s_law_parts, [], []⟩
abbrev D_law_program : He.DefD := ⟨("_law_program", none), "_law_program", "_law_program", defArgs s_law_program, defBody s_law_program, defScope s_law_program, [], []⟩
abbrev D_law_words : He.DefD := ⟨("_law_words", none), "_law_words", "_law_words", defArgs s_law_words, defBody s_law_words, defScope s_law_words, [], []⟩
abbrev D_law_wrong_words : He.DefD := ⟨("_law_wrong_words", none), "_law_wrong_words", "_law_wrong_words", defArgs s_law_wrong_words, defBody s_law_wrong_words, defScope s_law_wrong_words, [], []⟩
abbrev D_law_plain_start : He.DefD := ⟨("_law_plain_start", none), "_law_plain_start", "_law_plain_start", defArgs s_law_plain_start, defBody s_law_plain_start, defScope s_law_plain_start, [], []⟩
abbrev D_law_effect : He.DefD := ⟨("_law_effect", none), "_law_effect", "_law_effect", defArgs s_law_effect, defBody s_law_effect, defScope s_law_effect, [], []⟩
abbrev D_law_give : He.DefD := ⟨("_law_give", none), "_law_give", "_law_give", defArgs s_law_give, defBody s_law_give, defScope s_law_give, [], []⟩
abbrev D_law_true : He.DefD := ⟨("_law_true", none), "_law_true", "_law_true", defArgs s_law_true, defBody s_law_true, defScope s_law_true, [], []⟩
abbrev D_law_plain_run : He.DefD := ⟨("_law_plain_run", none), "_law_plain_run", "_law_plain_run", defArgs s_law_plain_run, defBody s_law_plain_run, defScope s_law_plain_run, [], []⟩
abbrev D_law_plain_write : He.DefD := ⟨("_law_plain_write", none), "_law_plain_write", "_law_plain_write", defArgs s_law_plain_write, defBody s_law_plain_write, defScope s_law_plain_write, [], []⟩
abbrev D_law_plain_rest : He.DefD := ⟨("_law_plain_rest", none), "_law_plain_rest", "_law_plain_rest", defArgs s_law_plain_rest, defBody s_law_plain_rest, defScope s_law_plain_rest, [], []⟩
abbrev D_law_plain_begin : He.DefD := ⟨("_law_plain_begin", none), "_law_plain_begin", "_law_plain_begin", defArgs s_law_plain_begin, defBody s_law_plain_begin, defScope s_law_plain_begin, [], []⟩
abbrev D_law_deed : He.DefD := ⟨("_law_deed", none), "_law_deed", "_law_deed", defArgs s_law_deed, defBody s_law_deed, defScope s_law_deed, [], []⟩
abbrev D_law_plain_step : He.DefD := ⟨("_law_plain_step", none), "_law_plain_step", "_law_plain_step", defArgs s_law_plain_step, defBody s_law_plain_step, defScope s_law_plain_step, [], []⟩
abbrev D_law_plain_deed : He.DefD := ⟨("_law_plain_deed", none), "_law_plain_deed", "_law_plain_deed", defArgs s_law_plain_deed, defBody s_law_plain_deed, defScope s_law_plain_deed, [], []⟩
abbrev D_law_no_deed : He.DefD := ⟨("_law_no_deed", none), "_law_no_deed", "_law_no_deed", defArgs s_law_no_deed, defBody s_law_no_deed, defScope s_law_no_deed, [], []⟩
abbrev D_law : He.DefD := ⟨("law", none), "law", "law", defArgs s_law, defBody s_law, defScope s_law, [], []⟩
def U_TrueRun_init : SupD := ⟨"TrueRun", "Record", "TrueRun.__init__", PySem.Challenge.pw_toldonward_k68_whole_plain_machine.main.file, defArgs s_TrueRun_init, defBody s_TrueRun_init, defScope s_TrueRun_init⟩
def us : List SupD := [U_TrueRun_init]
def fa0 : List He.Fa := [.glo "is_integer", .glo "is_name", .glo "are_names", .glo "are_named_pairs", .glo "check_bound", .glo "check_most", .glo "do_read", .glo "do_peek", .glo "do_put", .glo "do_write", .glo "do_say", .glo "do_rows", .glo "run_truly", .glo "is_start", .glo "check_start", .glo "known_words", .glo "is_deed", .glo "is_write", .glo "is_batch", .glo "plain_begin", .glo "plain_step", .glo "is_read_row", .glo "is_put_row", .glo "is_if_row", .glo "is_slot_row", .glo "is_write_row", .glo "check_of", .glo "is_valid_row", .glo "first_wrong_path", .glo "paths_of_rows"]
def fa1 : List He.Fa := [.glo "names_of", .glo "check_parts", .glo "check_bodies", .glo "check_body", .glo "_law_state", .glo "_law_draw", .glo "_law_names", .glo "_law_many", .glo "_law_row", .glo "_law_rows", .glo "_law_parts", .glo "_law_program", .glo "_law_words", .glo "_law_wrong_words", .glo "_law_plain_start", .glo "_law_effect", .glo "_law_give", .glo "_law_true", .glo "_law_plain_run", .glo "_law_plain_write", .glo "_law_plain_rest", .glo "_law_plain_begin", .glo "_law_deed", .glo "_law_plain_step", .glo "_law_plain_deed", .glo "_law_no_deed", .glo "law", .free "isinstance", .free "str", .free "tuple"]
def fa2 : List He.Fa := [.free "list", .free "len", .free "all", .free "set", .free "enumerate", .free "range", .free "abs", .free "int", .free "max", .free "dict", .free "zip", .free "any", .free "bool", .int "LONGEST_NAME" 8, .int "GREATEST_MOST" 2000, .int "MOST_ROWS" 16, .int "DEEPEST_IF" 3, .int "LEAST_WORDS" 2, .int "MOST_WORDS" 4, .int "LEAST_SOURCES" 1, .int "MOST_SOURCES" 4, .int "MOST_DERIVED" 6, .int "MOST_EFFECTS" 4, .glo "ToldError", .glo "InvalidProgram", .glo "InvalidStart", .exm "InvalidStart" "InvalidStart" true, .glo "InvalidDeed", .exm "InvalidDeed" "InvalidDeed" true, .exm "InvalidDeed" "InvalidStart" false]
def fa3 : List He.Fa := [.glo "InvalidBound", .glo "UnknownCell", .glo "TooManyRuns", .exm "TooManyRuns" "TooManyRuns" true, .exm "TooManyRuns" "InvalidStart" false, .exm "TooManyRuns" "InvalidDeed" false, .glo "Record", .glo "TrueRun", .cls "TrueRun", .mkr "TrueRun", .noat "TrueRun" "default", .noat "TrueRun" "known", .noat "TrueRun" "slots", .noat "TrueRun" "noted", .noat "TrueRun" "peeked", .noat "TrueRun" "said", .noat "TrueRun" "written", .noat "TrueRun" "given", .meth "TrueRun" "word_in", .glo "PlainMachine", .cls "PlainMachine", .mkr "PlainMachine", .noat "PlainMachine" "program", .noat "PlainMachine" "most", .noat "PlainMachine" "held", .noat "PlainMachine" "notes", .noat "PlainMachine" "waiting", .noat "PlainMachine" "log", .noat "PlainMachine" "runs", .meth "PlainMachine" "words_now"]
def fa4 : List He.Fa := [.meth "PlainMachine" "true_now", .meth "PlainMachine" "at_rest", .meth "PlainMachine" "write_together", .meth "PlainMachine" "look_at_effects", .meth "PlainMachine" "work_off_waiting", .glo "Scope", .cls "Scope", .mkr "Scope", .noat "Scope" "kind", .noat "Scope" "words", .noat "Scope" "sources", .noat "Scope" "readable", .glo "Program", .cls "Program", .mkr "Program", .noat "Program" "words", .noat "Program" "sources", .noat "Program" "derived", .noat "Program" "effects", .noat "Program" "_derived_names", .noat "Program" "_effect_names", .meth "Program" "cells", .meth "Program" "derived_names", .meth "Program" "effect_names", .meth "Program" "body", .meth "Program" "row_paths", .meth "Program" "row_at", .meth "Program" "with_row", .meth "TrueRun" "parts", .glo "DERIVED_FORMS"]
def fa5 : List He.Fa := [.glo "EFFECT_FORMS", .glo "ACTIONS", .exm "InvalidStart" "TooManyRuns" false, .exm "InvalidDeed" "TooManyRuns" false]
def fa : List He.Fa := fa0 ++ (fa1 ++ (fa2 ++ (fa3 ++ (fa4 ++ (fa5)))))
def fn0 : List He.DefD := [D_is_integer, D_is_name, D_are_names, D_are_named_pairs, D_InvalidProgram_init, D_InvalidStart_init, D_InvalidDeed_init, D_InvalidBound_init, D_UnknownCell_init, D_TooManyRuns_init, D_check_bound, D_check_most, D_Record_init, D_Record_parts, D_TrueRun_word_in, D_do_read, D_do_peek, D_do_put, D_do_write, D_do_say, D_do_rows, D_run_truly, D_is_start, D_check_start, D_known_words, D_is_deed, D_is_write, D_is_batch, D_PlainMachine_init, D_PlainMachine_words_now]
def fn1 : List He.DefD := [D_PlainMachine_true_now, D_PlainMachine_at_rest, D_PlainMachine_write_together, D_PlainMachine_look_at_effects, D_PlainMachine_work_off_waiting, D_plain_begin, D_plain_step, D_Scope_init, D_is_read_row, D_is_put_row, D_is_if_row, D_is_slot_row, D_is_write_row, D_check_of, D_is_valid_row, D_first_wrong_path, D_paths_of_rows, D_Program_init, D_Program_eq, D_Program_cells, D_Program_derived_names, D_Program_effect_names, D_Program_body, D_Program_row_paths, D_Program_row_at, D_Program_with_row, D_names_of, D_check_parts, D_check_bodies, D_check_body]
def fn2 : List He.DefD := [D_law_state, D_law_draw, D_law_names, D_law_many, D_law_row, D_law_rows, D_law_parts, D_law_program, D_law_words, D_law_wrong_words, D_law_plain_start, D_law_effect, D_law_give, D_law_true, D_law_plain_run, D_law_plain_write, D_law_plain_rest, D_law_plain_begin, D_law_deed, D_law_plain_step, D_law_plain_deed, D_law_no_deed, D_law]
def fn : List He.DefD := fn0 ++ (fn1 ++ (fn2))
def ts : List He.Tab := [(fun K => He.ga K "DERIVED_FORMS", ["read", "put", "if", "give"]), (fun K => He.ga K "EFFECT_FORMS", ["read", "peek", "put", "if", "write", "say"]), (fun K => He.ga K "ACTIONS", ["read", "peek", "put", "write", "say"])]
def vt : List (Str × List (Str × He.Dv)) := [("DERIVED_FORMS", [("read", He.Dv.glo "is_read_row"), ("put", He.Dv.glo "is_put_row"), ("if", He.Dv.glo "is_if_row"), ("give", He.Dv.glo "is_slot_row")]), ("EFFECT_FORMS", [("read", He.Dv.glo "is_read_row"), ("peek", He.Dv.glo "is_read_row"), ("put", He.Dv.glo "is_put_row"), ("if", He.Dv.glo "is_if_row"), ("write", He.Dv.glo "is_write_row"), ("say", He.Dv.glo "is_slot_row")]), ("ACTIONS", [("read", He.Dv.glo "do_read"), ("peek", He.Dv.glo "do_peek"), ("put", He.Dv.glo "do_put"), ("write", He.Dv.glo "do_write"), ("say", He.Dv.glo "do_say")])]
def xs : List (Str × Str) := [("TooManyRuns", "most"), ("InvalidStart", "words"), ("InvalidDeed", "deed")]
def ex (K : PySem.W.Frag) : Bool := (vt.all fun t => He.valsB K (He.ga K t.1) t.2) && xs.all fun q => excB K q.1 q.2
theorem plain_begin_binds {K : PySem.W.Frag} {f : Addr} {fd : FuncData} (F : FunD K "plain_begin" "plain_begin" (defArgs s_plain_begin) (defBody s_plain_begin) (defScope s_plain_begin) [] [("most", .int 200)] f fd) : ∃ ds : List Value, Vals [V.int 200] ds ∧ Binds K fd ["program", "words", "most"] ds :=
  F.binds0 (ps := ["program", "words", "most"]) 2 (by simp) rfl fun D doc pm an cdv ct us ks l1 l2 => match us, ks, l1, l2 with
    | [_, _], [_], _, _ => ⟨_, _, _, _, _, _, rfl, rfl, rfl⟩
theorem plain_begin_kbinds {K : PySem.W.Frag} {f : Addr} {fd : FuncData} (F : FunD K "plain_begin" "plain_begin" (defArgs s_plain_begin) (defBody s_plain_begin) (defScope s_plain_begin) [] [("most", .int 200)] f fd) : ∃ mv : List Value, KBn K fd ["program", "words", "most"] 2 ["most"] (fun us ws => us ++ ws) (fun vs zs => vs ++ zs) := by
  have := F.kbinds0 (ps := ["program", "words", "most"]) 2 ["most"] [] (fun us mv ws => us ++ ws) (by simp) (by simp) (fun a _ b => a.append b) fun D doc pm an cdv ct us mv ws l1 l2 l3 => match us, mv, ws, l1, l2, l3 with
    | [_, _], [], [_], _, _, _ => rfl
  exact this
theorem plain_step_binds {K : PySem.W.Frag} {f : Addr} {fd : FuncData} (F : FunD K "plain_step" "plain_step" (defArgs s_plain_step) (defBody s_plain_step) (defScope s_plain_step) [] [("most", .int 200)] f fd) : ∃ ds : List Value, Vals [V.int 200] ds ∧ Binds K fd ["program", "standing", "deed", "most"] ds :=
  F.binds0 (ps := ["program", "standing", "deed", "most"]) 3 (by simp) rfl fun D doc pm an cdv ct us ks l1 l2 => match us, ks, l1, l2 with
    | [_, _, _], [_], _, _ => ⟨_, _, _, _, _, _, rfl, rfl, rfl⟩
theorem plain_step_kbinds {K : PySem.W.Frag} {f : Addr} {fd : FuncData} (F : FunD K "plain_step" "plain_step" (defArgs s_plain_step) (defBody s_plain_step) (defScope s_plain_step) [] [("most", .int 200)] f fd) : ∃ mv : List Value, KBn K fd ["program", "standing", "deed", "most"] 3 ["most"] (fun us ws => us ++ ws) (fun vs zs => vs ++ zs) := by
  have := F.kbinds0 (ps := ["program", "standing", "deed", "most"]) 3 ["most"] [] (fun us mv ws => us ++ ws) (by simp) (by simp) (fun a _ b => a.append b) fun D doc pm an cdv ct us mv ws l1 l2 l3 => match us, mv, ws, l1, l2, l3 with
    | [_, _, _], [], [_], _, _, _ => rfl
  exact this
theorem fun_of {K : PySem.W.Frag} {x qual : Str} {st : Stmt} {f : Addr} (h : ∃ fd, FunD K x qual (defArgs st) (defBody st) (defScope st) [] [] f fd) : ∃ fd, Fun K x qual st f fd := by
  obtain ⟨fd, F⟩ := h
  obtain ⟨oc, od, dV, kV, doc, pm, an, cdv, ct, osl, e, lk, hcd, hD, hK⟩ := F.ex
  rcases hD with ⟨_, rfl⟩ | ⟨z, _⟩
  · exact ⟨fd, ⟨oc, od, kV, doc, pm, an, cdv, ct, osl, e, lk, hcd⟩, F.kp⟩
  · exact absurd rfl z
theorem val_of {K : PySem.W.Frag} {t : Str × List (Str × He.Dv)} (h : He.valsB K (He.ga K t.1) t.2 = true) (q : Str × He.Dv) (hq : q ∈ t.2) : ∃ u, PySem.W.nsIn K (He.ga K t.1) q.1 = some (some u) ∧ RelV (q.2.v K) u := He.valsB_ok h hq
theorem kdct_of {K : PySem.W.Frag} {w : World} {a : Addr} {es : Array DictEntry} {n : Nat} {x : Str} {v : V} (l : K.lookup a = some ⟨.type "dict", none, .dict es n, #[]⟩) (y : PySem.W.KeysLit w.params es.toList) (h : ∃ u, PySem.W.nsIn K a x = some (some u) ∧ RelV v u) : KDct K w a x v := by
  obtain ⟨u, h1, h2⟩ := h
  exact ⟨es, n, u, l, y, h1, h2⟩
theorem law_binds {K : PySem.W.Frag} {x qual : Str} {st : Stmt} {f : Addr} {fd : FuncData} {ps : List Str} (F : Fun K x qual st f fd)
    (h : ∀ (kV doc pm : Value) (an : Option Addr) (cdv ct : Value) (us : List Value), us.length = ps.length → bindArgs (PySem.W.fnOf x qual (defArgs st) (defBody st) (defScope st) .none kV doc pm an cdv ct) ⟨us, []⟩ = pure (ps.zip us)) (s : Shared) (us : List Value) (hl : us.length = ps.length) : BindsTo s fd ⟨us, []⟩ (ps.zip us) := by
  obtain ⟨oc, od, kV, doc, pm, an, cdv, ct, osl, rfl, lk, hcd⟩ := F.ex
  exact .of_eq (h kV doc pm an cdv ct us hl)
theorem tops {w : World} {K : PySem.W.Frag} {h : Heap} {mg : Str → Option Value} (X : K.In h) (G : h.Ns mainGlobals mg) (c : SaysU fa fn ts us ex w K) : ∃ T : Tops w K mg, ∀ (s : Shared) (u : Value), BindsTo s T.d_law ⟨[u], []⟩ [("_law_script", u)] := by
  obtain ⟨d_is_integer, F_is_integer⟩ := fun_of (x := "is_integer") (qual := "is_integer") (st := s_is_integer) (f := He.fAd K ("is_integer", none)) (c.t.d.def_ 0 (d := D_is_integer) rfl)
  obtain ⟨d_is_name, F_is_name⟩ := fun_of (x := "is_name") (qual := "is_name") (st := s_is_name) (f := He.fAd K ("is_name", none)) (c.t.d.def_ 1 (d := D_is_name) rfl)
  obtain ⟨d_are_names, F_are_names⟩ := fun_of (x := "are_names") (qual := "are_names") (st := s_are_names) (f := He.fAd K ("are_names", none)) (c.t.d.def_ 2 (d := D_are_names) rfl)
  obtain ⟨d_are_named_pairs, F_are_named_pairs⟩ := fun_of (x := "are_named_pairs") (qual := "are_named_pairs") (st := s_are_named_pairs) (f := He.fAd K ("are_named_pairs", none)) (c.t.d.def_ 3 (d := D_are_named_pairs) rfl)
  obtain ⟨d_InvalidProgram_init, F_InvalidProgram_init⟩ := fun_of (x := "__init__") (qual := "InvalidProgram.__init__") (st := s_InvalidProgram_init) (f := He.fAd K ("InvalidProgram", some "__init__")) (c.t.d.def_ 4 (d := D_InvalidProgram_init) rfl)
  obtain ⟨d_InvalidStart_init, F_InvalidStart_init⟩ := fun_of (x := "__init__") (qual := "InvalidStart.__init__") (st := s_InvalidStart_init) (f := He.fAd K ("InvalidStart", some "__init__")) (c.t.d.def_ 5 (d := D_InvalidStart_init) rfl)
  obtain ⟨d_InvalidDeed_init, F_InvalidDeed_init⟩ := fun_of (x := "__init__") (qual := "InvalidDeed.__init__") (st := s_InvalidDeed_init) (f := He.fAd K ("InvalidDeed", some "__init__")) (c.t.d.def_ 6 (d := D_InvalidDeed_init) rfl)
  obtain ⟨d_InvalidBound_init, F_InvalidBound_init⟩ := fun_of (x := "__init__") (qual := "InvalidBound.__init__") (st := s_InvalidBound_init) (f := He.fAd K ("InvalidBound", some "__init__")) (c.t.d.def_ 7 (d := D_InvalidBound_init) rfl)
  obtain ⟨d_UnknownCell_init, F_UnknownCell_init⟩ := fun_of (x := "__init__") (qual := "UnknownCell.__init__") (st := s_UnknownCell_init) (f := He.fAd K ("UnknownCell", some "__init__")) (c.t.d.def_ 8 (d := D_UnknownCell_init) rfl)
  obtain ⟨d_TooManyRuns_init, F_TooManyRuns_init⟩ := fun_of (x := "__init__") (qual := "TooManyRuns.__init__") (st := s_TooManyRuns_init) (f := He.fAd K ("TooManyRuns", some "__init__")) (c.t.d.def_ 9 (d := D_TooManyRuns_init) rfl)
  obtain ⟨d_check_bound, F_check_bound⟩ := fun_of (x := "check_bound") (qual := "check_bound") (st := s_check_bound) (f := He.fAd K ("check_bound", none)) (c.t.d.def_ 10 (d := D_check_bound) rfl)
  obtain ⟨d_check_most, F_check_most⟩ := fun_of (x := "check_most") (qual := "check_most") (st := s_check_most) (f := He.fAd K ("check_most", none)) (c.t.d.def_ 11 (d := D_check_most) rfl)
  obtain ⟨d_Record_init, F_Record_init⟩ := fun_of (x := "__init__") (qual := "Record.__init__") (st := s_Record_init) (f := He.fAd K ("Record", some "__init__")) (c.t.d.def_ 12 (d := D_Record_init) rfl)
  obtain ⟨d_Record_parts, F_Record_parts⟩ := fun_of (x := "parts") (qual := "Record.parts") (st := s_Record_parts) (f := He.fAd K ("TrueRun", some "parts")) (c.t.d.def_ 13 (d := D_Record_parts) rfl)
  obtain ⟨d_TrueRun_word_in, F_TrueRun_word_in⟩ := fun_of (x := "word_in") (qual := "TrueRun.word_in") (st := s_TrueRun_word_in) (f := He.fAd K ("TrueRun", some "word_in")) (c.t.d.def_ 14 (d := D_TrueRun_word_in) rfl)
  obtain ⟨d_do_read, F_do_read⟩ := fun_of (x := "do_read") (qual := "do_read") (st := s_do_read) (f := He.fAd K ("do_read", none)) (c.t.d.def_ 15 (d := D_do_read) rfl)
  obtain ⟨d_do_peek, F_do_peek⟩ := fun_of (x := "do_peek") (qual := "do_peek") (st := s_do_peek) (f := He.fAd K ("do_peek", none)) (c.t.d.def_ 16 (d := D_do_peek) rfl)
  obtain ⟨d_do_put, F_do_put⟩ := fun_of (x := "do_put") (qual := "do_put") (st := s_do_put) (f := He.fAd K ("do_put", none)) (c.t.d.def_ 17 (d := D_do_put) rfl)
  obtain ⟨d_do_write, F_do_write⟩ := fun_of (x := "do_write") (qual := "do_write") (st := s_do_write) (f := He.fAd K ("do_write", none)) (c.t.d.def_ 18 (d := D_do_write) rfl)
  obtain ⟨d_do_say, F_do_say⟩ := fun_of (x := "do_say") (qual := "do_say") (st := s_do_say) (f := He.fAd K ("do_say", none)) (c.t.d.def_ 19 (d := D_do_say) rfl)
  obtain ⟨d_do_rows, F_do_rows⟩ := fun_of (x := "do_rows") (qual := "do_rows") (st := s_do_rows) (f := He.fAd K ("do_rows", none)) (c.t.d.def_ 20 (d := D_do_rows) rfl)
  obtain ⟨d_run_truly, F_run_truly⟩ := fun_of (x := "run_truly") (qual := "run_truly") (st := s_run_truly) (f := He.fAd K ("run_truly", none)) (c.t.d.def_ 21 (d := D_run_truly) rfl)
  obtain ⟨d_is_start, F_is_start⟩ := fun_of (x := "is_start") (qual := "is_start") (st := s_is_start) (f := He.fAd K ("is_start", none)) (c.t.d.def_ 22 (d := D_is_start) rfl)
  obtain ⟨d_check_start, F_check_start⟩ := fun_of (x := "check_start") (qual := "check_start") (st := s_check_start) (f := He.fAd K ("check_start", none)) (c.t.d.def_ 23 (d := D_check_start) rfl)
  obtain ⟨d_known_words, F_known_words⟩ := fun_of (x := "known_words") (qual := "known_words") (st := s_known_words) (f := He.fAd K ("known_words", none)) (c.t.d.def_ 24 (d := D_known_words) rfl)
  obtain ⟨d_is_deed, F_is_deed⟩ := fun_of (x := "is_deed") (qual := "is_deed") (st := s_is_deed) (f := He.fAd K ("is_deed", none)) (c.t.d.def_ 25 (d := D_is_deed) rfl)
  obtain ⟨d_is_write, F_is_write⟩ := fun_of (x := "is_write") (qual := "is_write") (st := s_is_write) (f := He.fAd K ("is_write", none)) (c.t.d.def_ 26 (d := D_is_write) rfl)
  obtain ⟨d_is_batch, F_is_batch⟩ := fun_of (x := "is_batch") (qual := "is_batch") (st := s_is_batch) (f := He.fAd K ("is_batch", none)) (c.t.d.def_ 27 (d := D_is_batch) rfl)
  obtain ⟨d_PlainMachine_init, F_PlainMachine_init⟩ := fun_of (x := "__init__") (qual := "PlainMachine.__init__") (st := s_PlainMachine_init) (f := He.fAd K ("PlainMachine", some "__init__")) (c.t.d.def_ 28 (d := D_PlainMachine_init) rfl)
  obtain ⟨d_PlainMachine_words_now, F_PlainMachine_words_now⟩ := fun_of (x := "words_now") (qual := "PlainMachine.words_now") (st := s_PlainMachine_words_now) (f := He.fAd K ("PlainMachine", some "words_now")) (c.t.d.def_ 29 (d := D_PlainMachine_words_now) rfl)
  obtain ⟨d_PlainMachine_true_now, F_PlainMachine_true_now⟩ := fun_of (x := "true_now") (qual := "PlainMachine.true_now") (st := s_PlainMachine_true_now) (f := He.fAd K ("PlainMachine", some "true_now")) (c.t.d.def_ 30 (d := D_PlainMachine_true_now) rfl)
  obtain ⟨d_PlainMachine_at_rest, F_PlainMachine_at_rest⟩ := fun_of (x := "at_rest") (qual := "PlainMachine.at_rest") (st := s_PlainMachine_at_rest) (f := He.fAd K ("PlainMachine", some "at_rest")) (c.t.d.def_ 31 (d := D_PlainMachine_at_rest) rfl)
  obtain ⟨d_PlainMachine_write_together, F_PlainMachine_write_together⟩ := fun_of (x := "write_together") (qual := "PlainMachine.write_together") (st := s_PlainMachine_write_together) (f := He.fAd K ("PlainMachine", some "write_together")) (c.t.d.def_ 32 (d := D_PlainMachine_write_together) rfl)
  obtain ⟨d_PlainMachine_look_at_effects, F_PlainMachine_look_at_effects⟩ := fun_of (x := "look_at_effects") (qual := "PlainMachine.look_at_effects") (st := s_PlainMachine_look_at_effects) (f := He.fAd K ("PlainMachine", some "look_at_effects")) (c.t.d.def_ 33 (d := D_PlainMachine_look_at_effects) rfl)
  obtain ⟨d_PlainMachine_work_off_waiting, F_PlainMachine_work_off_waiting⟩ := fun_of (x := "work_off_waiting") (qual := "PlainMachine.work_off_waiting") (st := s_PlainMachine_work_off_waiting) (f := He.fAd K ("PlainMachine", some "work_off_waiting")) (c.t.d.def_ 34 (d := D_PlainMachine_work_off_waiting) rfl)
  obtain ⟨d_plain_begin, F_plain_begin⟩ := c.t.d.def_ 35 (d := D_plain_begin) rfl
  obtain ⟨_, kb_plain_begin⟩ := plain_begin_kbinds F_plain_begin
  obtain ⟨d_plain_step, F_plain_step⟩ := c.t.d.def_ 36 (d := D_plain_step) rfl
  obtain ⟨_, kb_plain_step⟩ := plain_step_kbinds F_plain_step
  obtain ⟨d_Scope_init, F_Scope_init⟩ := fun_of (x := "__init__") (qual := "Scope.__init__") (st := s_Scope_init) (f := He.fAd K ("Scope", some "__init__")) (c.t.d.def_ 37 (d := D_Scope_init) rfl)
  obtain ⟨d_is_read_row, F_is_read_row⟩ := fun_of (x := "is_read_row") (qual := "is_read_row") (st := s_is_read_row) (f := He.fAd K ("is_read_row", none)) (c.t.d.def_ 38 (d := D_is_read_row) rfl)
  obtain ⟨d_is_put_row, F_is_put_row⟩ := fun_of (x := "is_put_row") (qual := "is_put_row") (st := s_is_put_row) (f := He.fAd K ("is_put_row", none)) (c.t.d.def_ 39 (d := D_is_put_row) rfl)
  obtain ⟨d_is_if_row, F_is_if_row⟩ := fun_of (x := "is_if_row") (qual := "is_if_row") (st := s_is_if_row) (f := He.fAd K ("is_if_row", none)) (c.t.d.def_ 40 (d := D_is_if_row) rfl)
  obtain ⟨d_is_slot_row, F_is_slot_row⟩ := fun_of (x := "is_slot_row") (qual := "is_slot_row") (st := s_is_slot_row) (f := He.fAd K ("is_slot_row", none)) (c.t.d.def_ 41 (d := D_is_slot_row) rfl)
  obtain ⟨d_is_write_row, F_is_write_row⟩ := fun_of (x := "is_write_row") (qual := "is_write_row") (st := s_is_write_row) (f := He.fAd K ("is_write_row", none)) (c.t.d.def_ 42 (d := D_is_write_row) rfl)
  obtain ⟨d_check_of, F_check_of⟩ := fun_of (x := "check_of") (qual := "check_of") (st := s_check_of) (f := He.fAd K ("check_of", none)) (c.t.d.def_ 43 (d := D_check_of) rfl)
  obtain ⟨d_is_valid_row, F_is_valid_row⟩ := fun_of (x := "is_valid_row") (qual := "is_valid_row") (st := s_is_valid_row) (f := He.fAd K ("is_valid_row", none)) (c.t.d.def_ 44 (d := D_is_valid_row) rfl)
  obtain ⟨d_first_wrong_path, F_first_wrong_path⟩ := fun_of (x := "first_wrong_path") (qual := "first_wrong_path") (st := s_first_wrong_path) (f := He.fAd K ("first_wrong_path", none)) (c.t.d.def_ 45 (d := D_first_wrong_path) rfl)
  obtain ⟨d_paths_of_rows, F_paths_of_rows⟩ := fun_of (x := "paths_of_rows") (qual := "paths_of_rows") (st := s_paths_of_rows) (f := He.fAd K ("paths_of_rows", none)) (c.t.d.def_ 46 (d := D_paths_of_rows) rfl)
  obtain ⟨d_Program_init, F_Program_init⟩ := fun_of (x := "__init__") (qual := "Program.__init__") (st := s_Program_init) (f := He.fAd K ("Program", some "__init__")) (c.t.d.def_ 47 (d := D_Program_init) rfl)
  obtain ⟨d_Program_eq, F_Program_eq⟩ := fun_of (x := "__eq__") (qual := "Program.__eq__") (st := s_Program_eq) (f := He.fAd K ("Program", some "__eq__")) (c.t.d.def_ 48 (d := D_Program_eq) rfl)
  obtain ⟨d_Program_cells, F_Program_cells⟩ := fun_of (x := "cells") (qual := "Program.cells") (st := s_Program_cells) (f := He.fAd K ("Program", some "cells")) (c.t.d.def_ 49 (d := D_Program_cells) rfl)
  obtain ⟨d_Program_derived_names, F_Program_derived_names⟩ := fun_of (x := "derived_names") (qual := "Program.derived_names") (st := s_Program_derived_names) (f := He.fAd K ("Program", some "derived_names")) (c.t.d.def_ 50 (d := D_Program_derived_names) rfl)
  obtain ⟨d_Program_effect_names, F_Program_effect_names⟩ := fun_of (x := "effect_names") (qual := "Program.effect_names") (st := s_Program_effect_names) (f := He.fAd K ("Program", some "effect_names")) (c.t.d.def_ 51 (d := D_Program_effect_names) rfl)
  obtain ⟨d_Program_body, F_Program_body⟩ := fun_of (x := "body") (qual := "Program.body") (st := s_Program_body) (f := He.fAd K ("Program", some "body")) (c.t.d.def_ 52 (d := D_Program_body) rfl)
  obtain ⟨d_Program_row_paths, F_Program_row_paths⟩ := fun_of (x := "row_paths") (qual := "Program.row_paths") (st := s_Program_row_paths) (f := He.fAd K ("Program", some "row_paths")) (c.t.d.def_ 53 (d := D_Program_row_paths) rfl)
  obtain ⟨d_Program_row_at, F_Program_row_at⟩ := fun_of (x := "row_at") (qual := "Program.row_at") (st := s_Program_row_at) (f := He.fAd K ("Program", some "row_at")) (c.t.d.def_ 54 (d := D_Program_row_at) rfl)
  obtain ⟨d_Program_with_row, F_Program_with_row⟩ := fun_of (x := "with_row") (qual := "Program.with_row") (st := s_Program_with_row) (f := He.fAd K ("Program", some "with_row")) (c.t.d.def_ 55 (d := D_Program_with_row) rfl)
  obtain ⟨d_names_of, F_names_of⟩ := fun_of (x := "names_of") (qual := "names_of") (st := s_names_of) (f := He.fAd K ("names_of", none)) (c.t.d.def_ 56 (d := D_names_of) rfl)
  obtain ⟨d_check_parts, F_check_parts⟩ := fun_of (x := "check_parts") (qual := "check_parts") (st := s_check_parts) (f := He.fAd K ("check_parts", none)) (c.t.d.def_ 57 (d := D_check_parts) rfl)
  obtain ⟨d_check_bodies, F_check_bodies⟩ := fun_of (x := "check_bodies") (qual := "check_bodies") (st := s_check_bodies) (f := He.fAd K ("check_bodies", none)) (c.t.d.def_ 58 (d := D_check_bodies) rfl)
  obtain ⟨d_check_body, F_check_body⟩ := fun_of (x := "check_body") (qual := "check_body") (st := s_check_body) (f := He.fAd K ("check_body", none)) (c.t.d.def_ 59 (d := D_check_body) rfl)
  obtain ⟨d_law_state, F_law_state⟩ := fun_of (x := "_law_state") (qual := "_law_state") (st := s_law_state) (f := He.fAd K ("_law_state", none)) (c.t.d.def_ 60 (d := D_law_state) rfl)
  obtain ⟨d_law_draw, F_law_draw⟩ := fun_of (x := "_law_draw") (qual := "_law_draw") (st := s_law_draw) (f := He.fAd K ("_law_draw", none)) (c.t.d.def_ 61 (d := D_law_draw) rfl)
  obtain ⟨d_law_names, F_law_names⟩ := fun_of (x := "_law_names") (qual := "_law_names") (st := s_law_names) (f := He.fAd K ("_law_names", none)) (c.t.d.def_ 62 (d := D_law_names) rfl)
  obtain ⟨d_law_many, F_law_many⟩ := fun_of (x := "_law_many") (qual := "_law_many") (st := s_law_many) (f := He.fAd K ("_law_many", none)) (c.t.d.def_ 63 (d := D_law_many) rfl)
  obtain ⟨d_law_row, F_law_row⟩ := fun_of (x := "_law_row") (qual := "_law_row") (st := s_law_row) (f := He.fAd K ("_law_row", none)) (c.t.d.def_ 64 (d := D_law_row) rfl)
  obtain ⟨d_law_rows, F_law_rows⟩ := fun_of (x := "_law_rows") (qual := "_law_rows") (st := s_law_rows) (f := He.fAd K ("_law_rows", none)) (c.t.d.def_ 65 (d := D_law_rows) rfl)
  obtain ⟨d_law_parts, F_law_parts⟩ := fun_of (x := "_law_parts") (qual := "_law_parts") (st := s_law_parts) (f := He.fAd K ("_law_parts", none)) (c.t.d.def_ 66 (d := D_law_parts) rfl)
  obtain ⟨d_law_program, F_law_program⟩ := fun_of (x := "_law_program") (qual := "_law_program") (st := s_law_program) (f := He.fAd K ("_law_program", none)) (c.t.d.def_ 67 (d := D_law_program) rfl)
  obtain ⟨d_law_words, F_law_words⟩ := fun_of (x := "_law_words") (qual := "_law_words") (st := s_law_words) (f := He.fAd K ("_law_words", none)) (c.t.d.def_ 68 (d := D_law_words) rfl)
  obtain ⟨d_law_wrong_words, F_law_wrong_words⟩ := fun_of (x := "_law_wrong_words") (qual := "_law_wrong_words") (st := s_law_wrong_words) (f := He.fAd K ("_law_wrong_words", none)) (c.t.d.def_ 69 (d := D_law_wrong_words) rfl)
  obtain ⟨d_law_plain_start, F_law_plain_start⟩ := fun_of (x := "_law_plain_start") (qual := "_law_plain_start") (st := s_law_plain_start) (f := He.fAd K ("_law_plain_start", none)) (c.t.d.def_ 70 (d := D_law_plain_start) rfl)
  obtain ⟨d_law_effect, F_law_effect⟩ := fun_of (x := "_law_effect") (qual := "_law_effect") (st := s_law_effect) (f := He.fAd K ("_law_effect", none)) (c.t.d.def_ 71 (d := D_law_effect) rfl)
  obtain ⟨d_law_give, F_law_give⟩ := fun_of (x := "_law_give") (qual := "_law_give") (st := s_law_give) (f := He.fAd K ("_law_give", none)) (c.t.d.def_ 72 (d := D_law_give) rfl)
  obtain ⟨d_law_true, F_law_true⟩ := fun_of (x := "_law_true") (qual := "_law_true") (st := s_law_true) (f := He.fAd K ("_law_true", none)) (c.t.d.def_ 73 (d := D_law_true) rfl)
  obtain ⟨d_law_plain_run, F_law_plain_run⟩ := fun_of (x := "_law_plain_run") (qual := "_law_plain_run") (st := s_law_plain_run) (f := He.fAd K ("_law_plain_run", none)) (c.t.d.def_ 74 (d := D_law_plain_run) rfl)
  obtain ⟨d_law_plain_write, F_law_plain_write⟩ := fun_of (x := "_law_plain_write") (qual := "_law_plain_write") (st := s_law_plain_write) (f := He.fAd K ("_law_plain_write", none)) (c.t.d.def_ 75 (d := D_law_plain_write) rfl)
  obtain ⟨d_law_plain_rest, F_law_plain_rest⟩ := fun_of (x := "_law_plain_rest") (qual := "_law_plain_rest") (st := s_law_plain_rest) (f := He.fAd K ("_law_plain_rest", none)) (c.t.d.def_ 76 (d := D_law_plain_rest) rfl)
  obtain ⟨d_law_plain_begin, F_law_plain_begin⟩ := fun_of (x := "_law_plain_begin") (qual := "_law_plain_begin") (st := s_law_plain_begin) (f := He.fAd K ("_law_plain_begin", none)) (c.t.d.def_ 77 (d := D_law_plain_begin) rfl)
  obtain ⟨d_law_deed, F_law_deed⟩ := fun_of (x := "_law_deed") (qual := "_law_deed") (st := s_law_deed) (f := He.fAd K ("_law_deed", none)) (c.t.d.def_ 78 (d := D_law_deed) rfl)
  obtain ⟨d_law_plain_step, F_law_plain_step⟩ := fun_of (x := "_law_plain_step") (qual := "_law_plain_step") (st := s_law_plain_step) (f := He.fAd K ("_law_plain_step", none)) (c.t.d.def_ 79 (d := D_law_plain_step) rfl)
  obtain ⟨d_law_plain_deed, F_law_plain_deed⟩ := fun_of (x := "_law_plain_deed") (qual := "_law_plain_deed") (st := s_law_plain_deed) (f := He.fAd K ("_law_plain_deed", none)) (c.t.d.def_ 80 (d := D_law_plain_deed) rfl)
  obtain ⟨d_law_no_deed, F_law_no_deed⟩ := fun_of (x := "_law_no_deed") (qual := "_law_no_deed") (st := s_law_no_deed) (f := He.fAd K ("_law_no_deed", none)) (c.t.d.def_ 81 (d := D_law_no_deed) rfl)
  obtain ⟨d_law, F_law⟩ := fun_of (x := "law") (qual := "law") (st := s_law) (f := He.fAd K ("law", none)) (c.t.d.def_ 82 (d := D_law) rfl)
  obtain ⟨d_TrueRun_init, F_TrueRun_init⟩ := sup_of (P := PySem.Challenge.pw_toldonward_k68_whole_plain_machine) (d := U_TrueRun_init) (st := s_TrueRun_init) rfl rfl rfl (by kernel_rfl) (c.us U_TrueRun_init (by simp [us])).2 (c.us U_TrueRun_init (by simp [us])).1
  have E_TooManyRuns := excB_ok (List.all_eq_true.mp (He.ba c.more).2 ("TooManyRuns", "most") (by simp [xs]))
  have E_InvalidStart := excB_ok (List.all_eq_true.mp (He.ba c.more).2 ("InvalidStart", "words") (by simp [xs]))
  have E_InvalidDeed := excB_ok (List.all_eq_true.mp (He.ba c.more).2 ("InvalidDeed", "deed") (by simp [xs]))
  obtain ⟨u_LONGEST_NAME, e_LONGEST_NAME⟩ := He.int_ok X G (c.t.d.fact 73 (f := .int "LONGEST_NAME" 8) rfl)
  obtain ⟨u_GREATEST_MOST, e_GREATEST_MOST⟩ := He.int_ok X G (c.t.d.fact 74 (f := .int "GREATEST_MOST" 2000) rfl)
  obtain ⟨u_MOST_ROWS, e_MOST_ROWS⟩ := He.int_ok X G (c.t.d.fact 75 (f := .int "MOST_ROWS" 16) rfl)
  obtain ⟨u_DEEPEST_IF, e_DEEPEST_IF⟩ := He.int_ok X G (c.t.d.fact 76 (f := .int "DEEPEST_IF" 3) rfl)
  obtain ⟨u_LEAST_WORDS, e_LEAST_WORDS⟩ := He.int_ok X G (c.t.d.fact 77 (f := .int "LEAST_WORDS" 2) rfl)
  obtain ⟨u_MOST_WORDS, e_MOST_WORDS⟩ := He.int_ok X G (c.t.d.fact 78 (f := .int "MOST_WORDS" 4) rfl)
  obtain ⟨u_LEAST_SOURCES, e_LEAST_SOURCES⟩ := He.int_ok X G (c.t.d.fact 79 (f := .int "LEAST_SOURCES" 1) rfl)
  obtain ⟨u_MOST_SOURCES, e_MOST_SOURCES⟩ := He.int_ok X G (c.t.d.fact 80 (f := .int "MOST_SOURCES" 4) rfl)
  obtain ⟨u_MOST_DERIVED, e_MOST_DERIVED⟩ := He.int_ok X G (c.t.d.fact 81 (f := .int "MOST_DERIVED" 6) rfl)
  obtain ⟨u_MOST_EFFECTS, e_MOST_EFFECTS⟩ := He.int_ok X G (c.t.d.fact 82 (f := .int "MOST_EFFECTS" 4) rfl)
  obtain ⟨es_DERIVED_FORMS, n_DERIVED_FORMS, L_DERIVED_FORMS, Y_DERIVED_FORMS, S_DERIVED_FORMS⟩ := c.t.tab 0 (t := (fun K => He.ga K "DERIVED_FORMS", ["read", "put", "if", "give"])) rfl
  have V_DERIVED_FORMS := val_of (List.all_eq_true.mp (He.ba c.more).1 (("DERIVED_FORMS" : Str), ([("read", He.Dv.glo "is_read_row"), ("put", He.Dv.glo "is_put_row"), ("if", He.Dv.glo "is_if_row"), ("give", He.Dv.glo "is_slot_row")] : List (Str × He.Dv))) (by simp [vt]))
  obtain ⟨es_EFFECT_FORMS, n_EFFECT_FORMS, L_EFFECT_FORMS, Y_EFFECT_FORMS, S_EFFECT_FORMS⟩ := c.t.tab 1 (t := (fun K => He.ga K "EFFECT_FORMS", ["read", "peek", "put", "if", "write", "say"])) rfl
  have V_EFFECT_FORMS := val_of (List.all_eq_true.mp (He.ba c.more).1 (("EFFECT_FORMS" : Str), ([("read", He.Dv.glo "is_read_row"), ("peek", He.Dv.glo "is_read_row"), ("put", He.Dv.glo "is_put_row"), ("if", He.Dv.glo "is_if_row"), ("write", He.Dv.glo "is_write_row"), ("say", He.Dv.glo "is_slot_row")] : List (Str × He.Dv))) (by simp [vt]))
  obtain ⟨es_ACTIONS, n_ACTIONS, L_ACTIONS, Y_ACTIONS, S_ACTIONS⟩ := c.t.tab 2 (t := (fun K => He.ga K "ACTIONS", ["read", "peek", "put", "write", "say"])) rfl
  have V_ACTIONS := val_of (List.all_eq_true.mp (He.ba c.more).1 (("ACTIONS" : Str), ([("read", He.Dv.glo "do_read"), ("peek", He.Dv.glo "do_peek"), ("put", He.Dv.glo "do_put"), ("write", He.Dv.glo "do_write"), ("say", He.Dv.glo "do_say")] : List (Str × He.Dv))) (by simp [vt]))
  exact ⟨{
    z_isinstance := He.free_ok X G (c.t.d.fact 57 (f := .free "isinstance") rfl)
    z_str := He.free_ok X G (c.t.d.fact 58 (f := .free "str") rfl)
    z_tuple := He.free_ok X G (c.t.d.fact 59 (f := .free "tuple") rfl)
    z_list := He.free_ok X G (c.t.d.fact 60 (f := .free "list") rfl)
    z_len := He.free_ok X G (c.t.d.fact 61 (f := .free "len") rfl)
    z_all := He.free_ok X G (c.t.d.fact 62 (f := .free "all") rfl)
    z_set := He.free_ok X G (c.t.d.fact 63 (f := .free "set") rfl)
    z_enumerate := He.free_ok X G (c.t.d.fact 64 (f := .free "enumerate") rfl)
    z_range := He.free_ok X G (c.t.d.fact 65 (f := .free "range") rfl)
    z_abs := He.free_ok X G (c.t.d.fact 66 (f := .free "abs") rfl)
    z_int := He.free_ok X G (c.t.d.fact 67 (f := .free "int") rfl)
    z_max := He.free_ok X G (c.t.d.fact 68 (f := .free "max") rfl)
    z_dict := He.free_ok X G (c.t.d.fact 69 (f := .free "dict") rfl)
    z_zip := He.free_ok X G (c.t.d.fact 70 (f := .free "zip") rfl)
    z_any := He.free_ok X G (c.t.d.fact 71 (f := .free "any") rfl)
    z_bool := He.free_ok X G (c.t.d.fact 72 (f := .free "bool") rfl)
    u_LONGEST_NAME := u_LONGEST_NAME
    c_LONGEST_NAME := e_LONGEST_NAME
    u_GREATEST_MOST := u_GREATEST_MOST
    c_GREATEST_MOST := e_GREATEST_MOST
    u_MOST_ROWS := u_MOST_ROWS
    c_MOST_ROWS := e_MOST_ROWS
    u_DEEPEST_IF := u_DEEPEST_IF
    c_DEEPEST_IF := e_DEEPEST_IF
    u_LEAST_WORDS := u_LEAST_WORDS
    c_LEAST_WORDS := e_LEAST_WORDS
    u_MOST_WORDS := u_MOST_WORDS
    c_MOST_WORDS := e_MOST_WORDS
    u_LEAST_SOURCES := u_LEAST_SOURCES
    c_LEAST_SOURCES := e_LEAST_SOURCES
    u_MOST_SOURCES := u_MOST_SOURCES
    c_MOST_SOURCES := e_MOST_SOURCES
    u_MOST_DERIVED := u_MOST_DERIVED
    c_MOST_DERIVED := e_MOST_DERIVED
    u_MOST_EFFECTS := u_MOST_EFFECTS
    c_MOST_EFFECTS := e_MOST_EFFECTS
    a_is_integer := He.fAd K ("is_integer", none)
    d_is_integer := d_is_integer
    F_is_integer := F_is_integer
    b_is_integer := F_is_integer.binds (ps := ["value"]) fun _ _ _ _ _ _ us hl => match us, hl with | [_], _ => rfl
    m_is_integer := He.glo_ok X G (c.t.d.fact 0 (f := .glo "is_integer") rfl)
    a_is_name := He.fAd K ("is_name", none)
    d_is_name := d_is_name
    F_is_name := F_is_name
    b_is_name := F_is_name.binds (ps := ["value"]) fun _ _ _ _ _ _ us hl => match us, hl with | [_], _ => rfl
    m_is_name := He.glo_ok X G (c.t.d.fact 1 (f := .glo "is_name") rfl)
    a_are_names := He.fAd K ("are_names", none)
    d_are_names := d_are_names
    F_are_names := F_are_names
    b_are_names := F_are_names.binds (ps := ["value", "least", "most"]) fun _ _ _ _ _ _ us hl => match us, hl with | [_, _, _], _ => rfl
    m_are_names := He.glo_ok X G (c.t.d.fact 2 (f := .glo "are_names") rfl)
    a_are_named_pairs := He.fAd K ("are_named_pairs", none)
    d_are_named_pairs := d_are_named_pairs
    F_are_named_pairs := F_are_named_pairs
    b_are_named_pairs := F_are_named_pairs.binds (ps := ["value", "most", "taken"]) fun _ _ _ _ _ _ us hl => match us, hl with | [_, _, _], _ => rfl
    m_are_named_pairs := He.glo_ok X G (c.t.d.fact 3 (f := .glo "are_named_pairs") rfl)
    a_InvalidProgram_init := He.fAd K ("InvalidProgram", some "__init__")
    d_InvalidProgram_init := d_InvalidProgram_init
    F_InvalidProgram_init := F_InvalidProgram_init
    b_InvalidProgram_init := F_InvalidProgram_init.binds (ps := ["self", "part", "path"]) fun _ _ _ _ _ _ us hl => match us, hl with | [_, _, _], _ => rfl
    a_InvalidStart_init := He.fAd K ("InvalidStart", some "__init__")
    d_InvalidStart_init := d_InvalidStart_init
    F_InvalidStart_init := F_InvalidStart_init
    b_InvalidStart_init := F_InvalidStart_init.binds (ps := ["self", "words"]) fun _ _ _ _ _ _ us hl => match us, hl with | [_, _], _ => rfl
    a_InvalidDeed_init := He.fAd K ("InvalidDeed", some "__init__")
    d_InvalidDeed_init := d_InvalidDeed_init
    F_InvalidDeed_init := F_InvalidDeed_init
    b_InvalidDeed_init := F_InvalidDeed_init.binds (ps := ["self", "deed"]) fun _ _ _ _ _ _ us hl => match us, hl with | [_, _], _ => rfl
    a_InvalidBound_init := He.fAd K ("InvalidBound", some "__init__")
    d_InvalidBound_init := d_InvalidBound_init
    F_InvalidBound_init := F_InvalidBound_init
    b_InvalidBound_init := F_InvalidBound_init.binds (ps := ["self", "value"]) fun _ _ _ _ _ _ us hl => match us, hl with | [_, _], _ => rfl
    a_UnknownCell_init := He.fAd K ("UnknownCell", some "__init__")
    d_UnknownCell_init := d_UnknownCell_init
    F_UnknownCell_init := F_UnknownCell_init
    b_UnknownCell_init := F_UnknownCell_init.binds (ps := ["self", "name"]) fun _ _ _ _ _ _ us hl => match us, hl with | [_, _], _ => rfl
    a_TooManyRuns_init := He.fAd K ("TooManyRuns", some "__init__")
    d_TooManyRuns_init := d_TooManyRuns_init
    F_TooManyRuns_init := F_TooManyRuns_init
    b_TooManyRuns_init := F_TooManyRuns_init.binds (ps := ["self", "most"]) fun _ _ _ _ _ _ us hl => match us, hl with | [_, _], _ => rfl
    a_check_bound := He.fAd K ("check_bound", none)
    d_check_bound := d_check_bound
    F_check_bound := F_check_bound
    b_check_bound := F_check_bound.binds (ps := ["value", "greatest"]) fun _ _ _ _ _ _ us hl => match us, hl with | [_, _], _ => rfl
    m_check_bound := He.glo_ok X G (c.t.d.fact 4 (f := .glo "check_bound") rfl)
    a_check_most := He.fAd K ("check_most", none)
    d_check_most := d_check_most
    F_check_most := F_check_most
    b_check_most := F_check_most.binds (ps := ["value"]) fun _ _ _ _ _ _ us hl => match us, hl with | [_], _ => rfl
    m_check_most := He.glo_ok X G (c.t.d.fact 5 (f := .glo "check_most") rfl)
    a_Record_init := He.fAd K ("Record", some "__init__")
    d_Record_init := d_Record_init
    F_Record_init := F_Record_init
    b_Record_init := F_Record_init.binds (ps := ["self"]) fun _ _ _ _ _ _ us hl => match us, hl with | [_], _ => rfl
    a_Record_parts := He.fAd K ("TrueRun", some "parts")
    d_Record_parts := d_Record_parts
    F_Record_parts := F_Record_parts
    b_Record_parts := F_Record_parts.binds (ps := ["self"]) fun _ _ _ _ _ _ us hl => match us, hl with | [_], _ => rfl
    a_TrueRun_init := He.fAd K ("TrueRun", some "__init__")
    d_TrueRun_init := d_TrueRun_init
    a_TrueRun_word_in := He.fAd K ("TrueRun", some "word_in")
    d_TrueRun_word_in := d_TrueRun_word_in
    F_TrueRun_word_in := F_TrueRun_word_in
    b_TrueRun_word_in := F_TrueRun_word_in.binds (ps := ["self", "slot"]) fun _ _ _ _ _ _ us hl => match us, hl with | [_, _], _ => rfl
    a_do_read := He.fAd K ("do_read", none)
    d_do_read := d_do_read
    F_do_read := F_do_read
    b_do_read := F_do_read.binds (ps := ["run", "row"]) fun _ _ _ _ _ _ us hl => match us, hl with | [_, _], _ => rfl
    m_do_read := He.glo_ok X G (c.t.d.fact 6 (f := .glo "do_read") rfl)
    a_do_peek := He.fAd K ("do_peek", none)
    d_do_peek := d_do_peek
    F_do_peek := F_do_peek
    b_do_peek := F_do_peek.binds (ps := ["run", "row"]) fun _ _ _ _ _ _ us hl => match us, hl with | [_, _], _ => rfl
    m_do_peek := He.glo_ok X G (c.t.d.fact 7 (f := .glo "do_peek") rfl)
    a_do_put := He.fAd K ("do_put", none)
    d_do_put := d_do_put
    F_do_put := F_do_put
    b_do_put := F_do_put.binds (ps := ["run", "row"]) fun _ _ _ _ _ _ us hl => match us, hl with | [_, _], _ => rfl
    m_do_put := He.glo_ok X G (c.t.d.fact 8 (f := .glo "do_put") rfl)
    a_do_write := He.fAd K ("do_write", none)
    d_do_write := d_do_write
    F_do_write := F_do_write
    b_do_write := F_do_write.binds (ps := ["run", "row"]) fun _ _ _ _ _ _ us hl => match us, hl with | [_, _], _ => rfl
    m_do_write := He.glo_ok X G (c.t.d.fact 9 (f := .glo "do_write") rfl)
    a_do_say := He.fAd K ("do_say", none)
    d_do_say := d_do_say
    F_do_say := F_do_say
    b_do_say := F_do_say.binds (ps := ["run", "row"]) fun _ _ _ _ _ _ us hl => match us, hl with | [_, _], _ => rfl
    m_do_say := He.glo_ok X G (c.t.d.fact 10 (f := .glo "do_say") rfl)
    a_do_rows := He.fAd K ("do_rows", none)
    d_do_rows := d_do_rows
    F_do_rows := F_do_rows
    b_do_rows := F_do_rows.binds (ps := ["run", "rows"]) fun _ _ _ _ _ _ us hl => match us, hl with | [_, _], _ => rfl
    m_do_rows := He.glo_ok X G (c.t.d.fact 11 (f := .glo "do_rows") rfl)
    a_run_truly := He.fAd K ("run_truly", none)
    d_run_truly := d_run_truly
    F_run_truly := F_run_truly
    b_run_truly := F_run_truly.binds (ps := ["program", "known", "rows"]) fun _ _ _ _ _ _ us hl => match us, hl with | [_, _, _], _ => rfl
    m_run_truly := He.glo_ok X G (c.t.d.fact 12 (f := .glo "run_truly") rfl)
    a_is_start := He.fAd K ("is_start", none)
    d_is_start := d_is_start
    F_is_start := F_is_start
    b_is_start := F_is_start.binds (ps := ["program", "words"]) fun _ _ _ _ _ _ us hl => match us, hl with | [_, _], _ => rfl
    m_is_start := He.glo_ok X G (c.t.d.fact 13 (f := .glo "is_start") rfl)
    a_check_start := He.fAd K ("check_start", none)
    d_check_start := d_check_start
    F_check_start := F_check_start
    b_check_start := F_check_start.binds (ps := ["program", "words"]) fun _ _ _ _ _ _ us hl => match us, hl with | [_, _], _ => rfl
    m_check_start := He.glo_ok X G (c.t.d.fact 14 (f := .glo "check_start") rfl)
    a_known_words := He.fAd K ("known_words", none)
    d_known_words := d_known_words
    F_known_words := F_known_words
    b_known_words := F_known_words.binds (ps := ["program", "words"]) fun _ _ _ _ _ _ us hl => match us, hl with | [_, _], _ => rfl
    m_known_words := He.glo_ok X G (c.t.d.fact 15 (f := .glo "known_words") rfl)
    a_is_deed := He.fAd K ("is_deed", none)
    d_is_deed := d_is_deed
    F_is_deed := F_is_deed
    b_is_deed := F_is_deed.binds (ps := ["program", "value"]) fun _ _ _ _ _ _ us hl => match us, hl with | [_, _], _ => rfl
    m_is_deed := He.glo_ok X G (c.t.d.fact 16 (f := .glo "is_deed") rfl)
    a_is_write := He.fAd K ("is_write", none)
    d_is_write := d_is_write
    F_is_write := F_is_write
    b_is_write := F_is_write.binds (ps := ["program", "value"]) fun _ _ _ _ _ _ us hl => match us, hl with | [_, _], _ => rfl
    m_is_write := He.glo_ok X G (c.t.d.fact 17 (f := .glo "is_write") rfl)
    a_is_batch := He.fAd K ("is_batch", none)
    d_is_batch := d_is_batch
    F_is_batch := F_is_batch
    b_is_batch := F_is_batch.binds (ps := ["program", "value"]) fun _ _ _ _ _ _ us hl => match us, hl with | [_, _], _ => rfl
    m_is_batch := He.glo_ok X G (c.t.d.fact 18 (f := .glo "is_batch") rfl)
    a_PlainMachine_init := He.fAd K ("PlainMachine", some "__init__")
    d_PlainMachine_init := d_PlainMachine_init
    F_PlainMachine_init := F_PlainMachine_init
    b_PlainMachine_init := F_PlainMachine_init.binds (ps := ["self", "program", "words", "notes", "most"]) fun _ _ _ _ _ _ us hl => match us, hl with | [_, _, _, _, _], _ => rfl
    a_PlainMachine_words_now := He.fAd K ("PlainMachine", some "words_now")
    d_PlainMachine_words_now := d_PlainMachine_words_now
    F_PlainMachine_words_now := F_PlainMachine_words_now
    b_PlainMachine_words_now := F_PlainMachine_words_now.binds (ps := ["self"]) fun _ _ _ _ _ _ us hl => match us, hl with | [_], _ => rfl
    a_PlainMachine_true_now := He.fAd K ("PlainMachine", some "true_now")
    d_PlainMachine_true_now := d_PlainMachine_true_now
    F_PlainMachine_true_now := F_PlainMachine_true_now
    b_PlainMachine_true_now := F_PlainMachine_true_now.binds (ps := ["self"]) fun _ _ _ _ _ _ us hl => match us, hl with | [_], _ => rfl
    a_PlainMachine_at_rest := He.fAd K ("PlainMachine", some "at_rest")
    d_PlainMachine_at_rest := d_PlainMachine_at_rest
    F_PlainMachine_at_rest := F_PlainMachine_at_rest
    b_PlainMachine_at_rest := F_PlainMachine_at_rest.binds (ps := ["self"]) fun _ _ _ _ _ _ us hl => match us, hl with | [_], _ => rfl
    a_PlainMachine_write_together := He.fAd K ("PlainMachine", some "write_together")
    d_PlainMachine_write_together := d_PlainMachine_write_together
    F_PlainMachine_write_together := F_PlainMachine_write_together
    b_PlainMachine_write_together := F_PlainMachine_write_together.binds (ps := ["self", "writes"]) fun _ _ _ _ _ _ us hl => match us, hl with | [_, _], _ => rfl
    a_PlainMachine_look_at_effects := He.fAd K ("PlainMachine", some "look_at_effects")
    d_PlainMachine_look_at_effects := d_PlainMachine_look_at_effects
    F_PlainMachine_look_at_effects := F_PlainMachine_look_at_effects
    b_PlainMachine_look_at_effects := F_PlainMachine_look_at_effects.binds (ps := ["self"]) fun _ _ _ _ _ _ us hl => match us, hl with | [_], _ => rfl
    a_PlainMachine_work_off_waiting := He.fAd K ("PlainMachine", some "work_off_waiting")
    d_PlainMachine_work_off_waiting := d_PlainMachine_work_off_waiting
    F_PlainMachine_work_off_waiting := F_PlainMachine_work_off_waiting
    b_PlainMachine_work_off_waiting := F_PlainMachine_work_off_waiting.binds (ps := ["self"]) fun _ _ _ _ _ _ us hl => match us, hl with | [_], _ => rfl
    a_plain_begin := He.fAd K ("plain_begin", none)
    d_plain_begin := d_plain_begin
    F_plain_begin := F_plain_begin
    bx_plain_begin := plain_begin_binds F_plain_begin
    kb_plain_begin := kb_plain_begin
    m_plain_begin := He.glo_ok X G (c.t.d.fact 19 (f := .glo "plain_begin") rfl)
    a_plain_step := He.fAd K ("plain_step", none)
    d_plain_step := d_plain_step
    F_plain_step := F_plain_step
    bx_plain_step := plain_step_binds F_plain_step
    kb_plain_step := kb_plain_step
    m_plain_step := He.glo_ok X G (c.t.d.fact 20 (f := .glo "plain_step") rfl)
    a_Scope_init := He.fAd K ("Scope", some "__init__")
    d_Scope_init := d_Scope_init
    F_Scope_init := F_Scope_init
    b_Scope_init := F_Scope_init.binds (ps := ["self", "kind", "words", "sources", "readable"]) fun _ _ _ _ _ _ us hl => match us, hl with | [_, _, _, _, _], _ => rfl
    a_is_read_row := He.fAd K ("is_read_row", none)
    d_is_read_row := d_is_read_row
    F_is_read_row := F_is_read_row
    b_is_read_row := F_is_read_row.binds (ps := ["row", "scope"]) fun _ _ _ _ _ _ us hl => match us, hl with | [_, _], _ => rfl
    m_is_read_row := He.glo_ok X G (c.t.d.fact 21 (f := .glo "is_read_row") rfl)
    a_is_put_row := He.fAd K ("is_put_row", none)
    d_is_put_row := d_is_put_row
    F_is_put_row := F_is_put_row
    b_is_put_row := F_is_put_row.binds (ps := ["row", "scope"]) fun _ _ _ _ _ _ us hl => match us, hl with | [_, _], _ => rfl
    m_is_put_row := He.glo_ok X G (c.t.d.fact 22 (f := .glo "is_put_row") rfl)
    a_is_if_row := He.fAd K ("is_if_row", none)
    d_is_if_row := d_is_if_row
    F_is_if_row := F_is_if_row
    b_is_if_row := F_is_if_row.binds (ps := ["row", "scope"]) fun _ _ _ _ _ _ us hl => match us, hl with | [_, _], _ => rfl
    m_is_if_row := He.glo_ok X G (c.t.d.fact 23 (f := .glo "is_if_row") rfl)
    a_is_slot_row := He.fAd K ("is_slot_row", none)
    d_is_slot_row := d_is_slot_row
    F_is_slot_row := F_is_slot_row
    b_is_slot_row := F_is_slot_row.binds (ps := ["row", "scope"]) fun _ _ _ _ _ _ us hl => match us, hl with | [_, _], _ => rfl
    m_is_slot_row := He.glo_ok X G (c.t.d.fact 24 (f := .glo "is_slot_row") rfl)
    a_is_write_row := He.fAd K ("is_write_row", none)
    d_is_write_row := d_is_write_row
    F_is_write_row := F_is_write_row
    b_is_write_row := F_is_write_row.binds (ps := ["row", "scope"]) fun _ _ _ _ _ _ us hl => match us, hl with | [_, _], _ => rfl
    m_is_write_row := He.glo_ok X G (c.t.d.fact 25 (f := .glo "is_write_row") rfl)
    a_check_of := He.fAd K ("check_of", none)
    d_check_of := d_check_of
    F_check_of := F_check_of
    b_check_of := F_check_of.binds (ps := ["kind", "form"]) fun _ _ _ _ _ _ us hl => match us, hl with | [_, _], _ => rfl
    m_check_of := He.glo_ok X G (c.t.d.fact 26 (f := .glo "check_of") rfl)
    a_is_valid_row := He.fAd K ("is_valid_row", none)
    d_is_valid_row := d_is_valid_row
    F_is_valid_row := F_is_valid_row
    b_is_valid_row := F_is_valid_row.binds (ps := ["row", "scope", "depth"]) fun _ _ _ _ _ _ us hl => match us, hl with | [_, _, _], _ => rfl
    m_is_valid_row := He.glo_ok X G (c.t.d.fact 27 (f := .glo "is_valid_row") rfl)
    a_first_wrong_path := He.fAd K ("first_wrong_path", none)
    d_first_wrong_path := d_first_wrong_path
    F_first_wrong_path := F_first_wrong_path
    b_first_wrong_path := F_first_wrong_path.binds (ps := ["rows", "scope", "base", "depth"]) fun _ _ _ _ _ _ us hl => match us, hl with | [_, _, _, _], _ => rfl
    m_first_wrong_path := He.glo_ok X G (c.t.d.fact 28 (f := .glo "first_wrong_path") rfl)
    a_paths_of_rows := He.fAd K ("paths_of_rows", none)
    d_paths_of_rows := d_paths_of_rows
    F_paths_of_rows := F_paths_of_rows
    b_paths_of_rows := F_paths_of_rows.binds (ps := ["rows", "base"]) fun _ _ _ _ _ _ us hl => match us, hl with | [_, _], _ => rfl
    m_paths_of_rows := He.glo_ok X G (c.t.d.fact 29 (f := .glo "paths_of_rows") rfl)
    a_Program_init := He.fAd K ("Program", some "__init__")
    d_Program_init := d_Program_init
    F_Program_init := F_Program_init
    b_Program_init := F_Program_init.binds (ps := ["self", "words", "sources", "derived", "effects"]) fun _ _ _ _ _ _ us hl => match us, hl with | [_, _, _, _, _], _ => rfl
    a_Program_eq := He.fAd K ("Program", some "__eq__")
    d_Program_eq := d_Program_eq
    F_Program_eq := F_Program_eq
    b_Program_eq := F_Program_eq.binds (ps := ["self", "other"]) fun _ _ _ _ _ _ us hl => match us, hl with | [_, _], _ => rfl
    a_Program_cells := He.fAd K ("Program", some "cells")
    d_Program_cells := d_Program_cells
    F_Program_cells := F_Program_cells
    b_Program_cells := F_Program_cells.binds (ps := ["self"]) fun _ _ _ _ _ _ us hl => match us, hl with | [_], _ => rfl
    a_Program_derived_names := He.fAd K ("Program", some "derived_names")
    d_Program_derived_names := d_Program_derived_names
    F_Program_derived_names := F_Program_derived_names
    b_Program_derived_names := F_Program_derived_names.binds (ps := ["self"]) fun _ _ _ _ _ _ us hl => match us, hl with | [_], _ => rfl
    a_Program_effect_names := He.fAd K ("Program", some "effect_names")
    d_Program_effect_names := d_Program_effect_names
    F_Program_effect_names := F_Program_effect_names
    b_Program_effect_names := F_Program_effect_names.binds (ps := ["self"]) fun _ _ _ _ _ _ us hl => match us, hl with | [_], _ => rfl
    a_Program_body := He.fAd K ("Program", some "body")
    d_Program_body := d_Program_body
    F_Program_body := F_Program_body
    b_Program_body := F_Program_body.binds (ps := ["self", "name"]) fun _ _ _ _ _ _ us hl => match us, hl with | [_, _], _ => rfl
    a_Program_row_paths := He.fAd K ("Program", some "row_paths")
    d_Program_row_paths := d_Program_row_paths
    F_Program_row_paths := F_Program_row_paths
    b_Program_row_paths := F_Program_row_paths.binds (ps := ["self"]) fun _ _ _ _ _ _ us hl => match us, hl with | [_], _ => rfl
    a_Program_row_at := He.fAd K ("Program", some "row_at")
    d_Program_row_at := d_Program_row_at
    F_Program_row_at := F_Program_row_at
    b_Program_row_at := F_Program_row_at.binds (ps := ["self", "path"]) fun _ _ _ _ _ _ us hl => match us, hl with | [_, _], _ => rfl
    a_Program_with_row := He.fAd K ("Program", some "with_row")
    d_Program_with_row := d_Program_with_row
    F_Program_with_row := F_Program_with_row
    b_Program_with_row := F_Program_with_row.binds (ps := ["self", "path", "row"]) fun _ _ _ _ _ _ us hl => match us, hl with | [_, _, _], _ => rfl
    a_names_of := He.fAd K ("names_of", none)
    d_names_of := d_names_of
    F_names_of := F_names_of
    b_names_of := F_names_of.binds (ps := ["pairs"]) fun _ _ _ _ _ _ us hl => match us, hl with | [_], _ => rfl
    m_names_of := He.glo_ok X G (c.t.d.fact 30 (f := .glo "names_of") rfl)
    a_check_parts := He.fAd K ("check_parts", none)
    d_check_parts := d_check_parts
    F_check_parts := F_check_parts
    b_check_parts := F_check_parts.binds (ps := ["words", "sources", "derived", "effects"]) fun _ _ _ _ _ _ us hl => match us, hl with | [_, _, _, _], _ => rfl
    m_check_parts := He.glo_ok X G (c.t.d.fact 31 (f := .glo "check_parts") rfl)
    a_check_bodies := He.fAd K ("check_bodies", none)
    d_check_bodies := d_check_bodies
    F_check_bodies := F_check_bodies
    b_check_bodies := F_check_bodies.binds (ps := ["words", "sources", "derived", "effects"]) fun _ _ _ _ _ _ us hl => match us, hl with | [_, _, _, _], _ => rfl
    m_check_bodies := He.glo_ok X G (c.t.d.fact 32 (f := .glo "check_bodies") rfl)
    a_check_body := He.fAd K ("check_body", none)
    d_check_body := d_check_body
    F_check_body := F_check_body
    b_check_body := F_check_body.binds (ps := ["rows", "scope", "index"]) fun _ _ _ _ _ _ us hl => match us, hl with | [_, _, _], _ => rfl
    m_check_body := He.glo_ok X G (c.t.d.fact 33 (f := .glo "check_body") rfl)
    a__law_state := He.fAd K ("_law_state", none)
    d__law_state := d_law_state
    F__law_state := F_law_state
    b__law_state := F_law_state.binds (ps := ["_law_script"]) fun _ _ _ _ _ _ us hl => match us, hl with | [_], _ => rfl
    m__law_state := He.glo_ok X G (c.t.d.fact 34 (f := .glo "_law_state") rfl)
    a__law_draw := He.fAd K ("_law_draw", none)
    d__law_draw := d_law_draw
    F__law_draw := F_law_draw
    b__law_draw := F_law_draw.binds (ps := ["_law_state_here", "_law_many_here"]) fun _ _ _ _ _ _ us hl => match us, hl with | [_, _], _ => rfl
    m__law_draw := He.glo_ok X G (c.t.d.fact 35 (f := .glo "_law_draw") rfl)
    a__law_names := He.fAd K ("_law_names", none)
    d__law_names := d_law_names
    F__law_names := F_law_names
    b__law_names := F_law_names.binds (ps := ["_law_state_here", "_law_many_here"]) fun _ _ _ _ _ _ us hl => match us, hl with | [_, _], _ => rfl
    m__law_names := He.glo_ok X G (c.t.d.fact 36 (f := .glo "_law_names") rfl)
    a__law_many := He.fAd K ("_law_many", none)
    d__law_many := d_law_many
    F__law_many := F_law_many
    b__law_many := F_law_many.binds (ps := ["_law_rows_here"]) fun _ _ _ _ _ _ us hl => match us, hl with | [_], _ => rfl
    m__law_many := He.glo_ok X G (c.t.d.fact 37 (f := .glo "_law_many") rfl)
    a__law_row := He.fAd K ("_law_row", none)
    d__law_row := d_law_row
    F__law_row := F_law_row
    b__law_row := F_law_row.binds (ps := ["_law_state_here", "_law_shape"]) fun _ _ _ _ _ _ us hl => match us, hl with | [_, _], _ => rfl
    m__law_row := He.glo_ok X G (c.t.d.fact 38 (f := .glo "_law_row") rfl)
    a__law_rows := He.fAd K ("_law_rows", none)
    d__law_rows := d_law_rows
    F__law_rows := F_law_rows
    b__law_rows := F_law_rows.binds (ps := ["_law_state_here", "_law_shape", "_law_depth", "_law_room"]) fun _ _ _ _ _ _ us hl => match us, hl with | [_, _, _, _], _ => rfl
    m__law_rows := He.glo_ok X G (c.t.d.fact 39 (f := .glo "_law_rows") rfl)
    a__law_parts := He.fAd K ("_law_parts", none)
    d__law_parts := d_law_parts
    F__law_parts := F_law_parts
    b__law_parts := F_law_parts.binds (ps := ["_law_state_here", "_law_sizes", "_law_peeks", "_law_writes"]) fun _ _ _ _ _ _ us hl => match us, hl with | [_, _, _, _], _ => rfl
    m__law_parts := He.glo_ok X G (c.t.d.fact 40 (f := .glo "_law_parts") rfl)
    a__law_program := He.fAd K ("_law_program", none)
    d__law_program := d_law_program
    F__law_program := F_law_program
    b__law_program := F_law_program.binds (ps := ["_law_parts_here"]) fun _ _ _ _ _ _ us hl => match us, hl with | [_], _ => rfl
    m__law_program := He.glo_ok X G (c.t.d.fact 41 (f := .glo "_law_program") rfl)
    a__law_words := He.fAd K ("_law_words", none)
    d__law_words := d_law_words
    F__law_words := F_law_words
    b__law_words := F_law_words.binds (ps := ["_law_state_here", "_law_parts_here"]) fun _ _ _ _ _ _ us hl => match us, hl with | [_, _], _ => rfl
    m__law_words := He.glo_ok X G (c.t.d.fact 42 (f := .glo "_law_words") rfl)
    a__law_wrong_words := He.fAd K ("_law_wrong_words", none)
    d__law_wrong_words := d_law_wrong_words
    F__law_wrong_words := F_law_wrong_words
    b__law_wrong_words := F_law_wrong_words.binds (ps := ["_law_state_here", "_law_words_here"]) fun _ _ _ _ _ _ us hl => match us, hl with | [_, _], _ => rfl
    m__law_wrong_words := He.glo_ok X G (c.t.d.fact 43 (f := .glo "_law_wrong_words") rfl)
    a__law_plain_start := He.fAd K ("_law_plain_start", none)
    d__law_plain_start := d_law_plain_start
    F__law_plain_start := F_law_plain_start
    b__law_plain_start := F_law_plain_start.binds (ps := ["_law_program_here", "_law_words_here", "_law_bound"]) fun _ _ _ _ _ _ us hl => match us, hl with | [_, _, _], _ => rfl
    m__law_plain_start := He.glo_ok X G (c.t.d.fact 44 (f := .glo "_law_plain_start") rfl)
    a__law_effect := He.fAd K ("_law_effect", none)
    d__law_effect := d_law_effect
    F__law_effect := F_law_effect
    b__law_effect := F_law_effect.binds (ps := ["_law_parts_here", "_law_rows_here", "_law_table", "_law_slots", "_law_told"]) fun _ _ _ _ _ _ us hl => match us, hl with | [_, _, _, _, _], _ => rfl
    m__law_effect := He.glo_ok X G (c.t.d.fact 45 (f := .glo "_law_effect") rfl)
    a__law_give := He.fAd K ("_law_give", none)
    d__law_give := d_law_give
    F__law_give := F_law_give
    b__law_give := F_law_give.binds (ps := ["_law_parts_here", "_law_rows_here", "_law_table", "_law_slots"]) fun _ _ _ _ _ _ us hl => match us, hl with | [_, _, _, _], _ => rfl
    m__law_give := He.glo_ok X G (c.t.d.fact 46 (f := .glo "_law_give") rfl)
    a__law_true := He.fAd K ("_law_true", none)
    d__law_true := d_law_true
    F__law_true := F_law_true
    b__law_true := F_law_true.binds (ps := ["_law_parts_here", "_law_words_here"]) fun _ _ _ _ _ _ us hl => match us, hl with | [_, _], _ => rfl
    m__law_true := He.glo_ok X G (c.t.d.fact 47 (f := .glo "_law_true") rfl)
    a__law_plain_run := He.fAd K ("_law_plain_run", none)
    d__law_plain_run := d_law_plain_run
    F__law_plain_run := F_law_plain_run
    b__law_plain_run := F_law_plain_run.binds (ps := ["_law_parts_here", "_law_m", "_law_at"]) fun _ _ _ _ _ _ us hl => match us, hl with | [_, _, _], _ => rfl
    m__law_plain_run := He.glo_ok X G (c.t.d.fact 48 (f := .glo "_law_plain_run") rfl)
    a__law_plain_write := He.fAd K ("_law_plain_write", none)
    d__law_plain_write := d_law_plain_write
    F__law_plain_write := F_law_plain_write
    b__law_plain_write := F_law_plain_write.binds (ps := ["_law_parts_here", "_law_m", "_law_writes"]) fun _ _ _ _ _ _ us hl => match us, hl with | [_, _, _], _ => rfl
    m__law_plain_write := He.glo_ok X G (c.t.d.fact 49 (f := .glo "_law_plain_write") rfl)
    a__law_plain_rest := He.fAd K ("_law_plain_rest", none)
    d__law_plain_rest := d_law_plain_rest
    F__law_plain_rest := F_law_plain_rest
    b__law_plain_rest := F_law_plain_rest.binds (ps := ["_law_parts_here", "_law_m", "_law_bound"]) fun _ _ _ _ _ _ us hl => match us, hl with | [_, _, _], _ => rfl
    m__law_plain_rest := He.glo_ok X G (c.t.d.fact 50 (f := .glo "_law_plain_rest") rfl)
    a__law_plain_begin := He.fAd K ("_law_plain_begin", none)
    d__law_plain_begin := d_law_plain_begin
    F__law_plain_begin := F_law_plain_begin
    b__law_plain_begin := F_law_plain_begin.binds (ps := ["_law_parts_here", "_law_words_here", "_law_bound"]) fun _ _ _ _ _ _ us hl => match us, hl with | [_, _, _], _ => rfl
    m__law_plain_begin := He.glo_ok X G (c.t.d.fact 51 (f := .glo "_law_plain_begin") rfl)
    a__law_deed := He.fAd K ("_law_deed", none)
    d__law_deed := d_law_deed
    F__law_deed := F_law_deed
    b__law_deed := F_law_deed.binds (ps := ["_law_state_here", "_law_parts_here"]) fun _ _ _ _ _ _ us hl => match us, hl with | [_, _], _ => rfl
    m__law_deed := He.glo_ok X G (c.t.d.fact 52 (f := .glo "_law_deed") rfl)
    a__law_plain_step := He.fAd K ("_law_plain_step", none)
    d__law_plain_step := d_law_plain_step
    F__law_plain_step := F_law_plain_step
    b__law_plain_step := F_law_plain_step.binds (ps := ["_law_parts_here", "_law_here", "_law_deed_here", "_law_bound"]) fun _ _ _ _ _ _ us hl => match us, hl with | [_, _, _, _], _ => rfl
    m__law_plain_step := He.glo_ok X G (c.t.d.fact 53 (f := .glo "_law_plain_step") rfl)
    a__law_plain_deed := He.fAd K ("_law_plain_deed", none)
    d__law_plain_deed := d_law_plain_deed
    F__law_plain_deed := F_law_plain_deed
    b__law_plain_deed := F_law_plain_deed.binds (ps := ["_law_program_here", "_law_here", "_law_deed_here", "_law_bound"]) fun _ _ _ _ _ _ us hl => match us, hl with | [_, _, _, _], _ => rfl
    m__law_plain_deed := He.glo_ok X G (c.t.d.fact 54 (f := .glo "_law_plain_deed") rfl)
    a__law_no_deed := He.fAd K ("_law_no_deed", none)
    d__law_no_deed := d_law_no_deed
    F__law_no_deed := F_law_no_deed
    b__law_no_deed := F_law_no_deed.binds (ps := ["_law_state_here", "_law_parts_here"]) fun _ _ _ _ _ _ us hl => match us, hl with | [_, _], _ => rfl
    m__law_no_deed := He.glo_ok X G (c.t.d.fact 55 (f := .glo "_law_no_deed") rfl)
    a_law := He.fAd K ("law", none)
    d_law := d_law
    F_law := F_law
    b_law := F_law.binds (ps := ["_law_script"]) fun _ _ _ _ _ _ us hl => match us, hl with | [_], _ => rfl
    m_law := He.glo_ok X G (c.t.d.fact 56 (f := .glo "law") rfl)
    c_ToldError := He.ga K "ToldError"
    m_ToldError := He.glo_ok X G (c.t.d.fact 83 (f := .glo "ToldError") rfl)
    c_InvalidProgram := He.ga K "InvalidProgram"
    m_InvalidProgram := He.glo_ok X G (c.t.d.fact 84 (f := .glo "InvalidProgram") rfl)
    c_InvalidStart := He.ga K "InvalidStart"
    m_InvalidStart := He.glo_ok X G (c.t.d.fact 85 (f := .glo "InvalidStart") rfl)
    x_InvalidStart := E_InvalidStart.1
    xi_InvalidStart := E_InvalidStart.2.1
    xt_InvalidStart := E_InvalidStart.2.2.1
    n_InvalidStart_words := E_InvalidStart.2.2.2.1
    xa_InvalidStart := E_InvalidStart.2.2.2.2.ga
    xg_InvalidStart := E_InvalidStart.2.2.2.2.gg
    xh_InvalidStart := E_InvalidStart.2.2.2.2.hdC
    xe_InvalidStart := He.exm_ok (c.t.d.fact 86 (f := .exm "InvalidStart" "InvalidStart" true) rfl)
    c_InvalidDeed := He.ga K "InvalidDeed"
    m_InvalidDeed := He.glo_ok X G (c.t.d.fact 87 (f := .glo "InvalidDeed") rfl)
    x_InvalidDeed := E_InvalidDeed.1
    xi_InvalidDeed := E_InvalidDeed.2.1
    xt_InvalidDeed := E_InvalidDeed.2.2.1
    n_InvalidDeed_deed := E_InvalidDeed.2.2.2.1
    xa_InvalidDeed := E_InvalidDeed.2.2.2.2.ga
    xg_InvalidDeed := E_InvalidDeed.2.2.2.2.gg
    xh_InvalidDeed := E_InvalidDeed.2.2.2.2.hdC
    xe_InvalidDeed := He.exm_ok (c.t.d.fact 88 (f := .exm "InvalidDeed" "InvalidDeed" true) rfl)
    xn_InvalidDeed_InvalidStart := He.exm_ok (c.t.d.fact 89 (f := .exm "InvalidDeed" "InvalidStart" false) rfl)
    c_InvalidBound := He.ga K "InvalidBound"
    m_InvalidBound := He.glo_ok X G (c.t.d.fact 90 (f := .glo "InvalidBound") rfl)
    c_UnknownCell := He.ga K "UnknownCell"
    m_UnknownCell := He.glo_ok X G (c.t.d.fact 91 (f := .glo "UnknownCell") rfl)
    c_TooManyRuns := He.ga K "TooManyRuns"
    m_TooManyRuns := He.glo_ok X G (c.t.d.fact 92 (f := .glo "TooManyRuns") rfl)
    x_TooManyRuns := E_TooManyRuns.1
    xi_TooManyRuns := E_TooManyRuns.2.1
    xt_TooManyRuns := E_TooManyRuns.2.2.1
    n_TooManyRuns_most := E_TooManyRuns.2.2.2.1
    xa_TooManyRuns := E_TooManyRuns.2.2.2.2.ga
    xg_TooManyRuns := E_TooManyRuns.2.2.2.2.gg
    xh_TooManyRuns := E_TooManyRuns.2.2.2.2.hdC
    xe_TooManyRuns := He.exm_ok (c.t.d.fact 93 (f := .exm "TooManyRuns" "TooManyRuns" true) rfl)
    xn_TooManyRuns_InvalidStart := He.exm_ok (c.t.d.fact 94 (f := .exm "TooManyRuns" "InvalidStart" false) rfl)
    xn_TooManyRuns_InvalidDeed := He.exm_ok (c.t.d.fact 95 (f := .exm "TooManyRuns" "InvalidDeed" false) rfl)
    c_Record := He.ga K "Record"
    m_Record := He.glo_ok X G (c.t.d.fact 96 (f := .glo "Record") rfl)
    c_TrueRun := He.ga K "TrueRun"
    m_TrueRun := He.glo_ok X G (c.t.d.fact 97 (f := .glo "TrueRun") rfl)
    l_TrueRun := He.cls_ok (c.t.d.fact 98 (f := .cls "TrueRun") rfl)
    k_TrueRun := He.mkr_ok (c.t.d.fact 99 (f := .mkr "TrueRun") rfl)
    n_TrueRun_default := He.noat_ok (c.t.d.fact 100 (f := .noat "TrueRun" "default") rfl)
    n_TrueRun_known := He.noat_ok (c.t.d.fact 101 (f := .noat "TrueRun" "known") rfl)
    n_TrueRun_slots := He.noat_ok (c.t.d.fact 102 (f := .noat "TrueRun" "slots") rfl)
    n_TrueRun_noted := He.noat_ok (c.t.d.fact 103 (f := .noat "TrueRun" "noted") rfl)
    n_TrueRun_peeked := He.noat_ok (c.t.d.fact 104 (f := .noat "TrueRun" "peeked") rfl)
    n_TrueRun_said := He.noat_ok (c.t.d.fact 105 (f := .noat "TrueRun" "said") rfl)
    n_TrueRun_written := He.noat_ok (c.t.d.fact 106 (f := .noat "TrueRun" "written") rfl)
    n_TrueRun_given := He.noat_ok (c.t.d.fact 107 (f := .noat "TrueRun" "given") rfl)
    t_TrueRun_word_in := He.meth_ok (c.t.d.fact 108 (f := .meth "TrueRun" "word_in") rfl)
    c_PlainMachine := He.ga K "PlainMachine"
    m_PlainMachine := He.glo_ok X G (c.t.d.fact 109 (f := .glo "PlainMachine") rfl)
    l_PlainMachine := He.cls_ok (c.t.d.fact 110 (f := .cls "PlainMachine") rfl)
    k_PlainMachine := He.mkr_ok (c.t.d.fact 111 (f := .mkr "PlainMachine") rfl)
    n_PlainMachine_program := He.noat_ok (c.t.d.fact 112 (f := .noat "PlainMachine" "program") rfl)
    n_PlainMachine_most := He.noat_ok (c.t.d.fact 113 (f := .noat "PlainMachine" "most") rfl)
    n_PlainMachine_held := He.noat_ok (c.t.d.fact 114 (f := .noat "PlainMachine" "held") rfl)
    n_PlainMachine_notes := He.noat_ok (c.t.d.fact 115 (f := .noat "PlainMachine" "notes") rfl)
    n_PlainMachine_waiting := He.noat_ok (c.t.d.fact 116 (f := .noat "PlainMachine" "waiting") rfl)
    n_PlainMachine_log := He.noat_ok (c.t.d.fact 117 (f := .noat "PlainMachine" "log") rfl)
    n_PlainMachine_runs := He.noat_ok (c.t.d.fact 118 (f := .noat "PlainMachine" "runs") rfl)
    t_PlainMachine_words_now := He.meth_ok (c.t.d.fact 119 (f := .meth "PlainMachine" "words_now") rfl)
    t_PlainMachine_true_now := He.meth_ok (c.t.d.fact 120 (f := .meth "PlainMachine" "true_now") rfl)
    t_PlainMachine_at_rest := He.meth_ok (c.t.d.fact 121 (f := .meth "PlainMachine" "at_rest") rfl)
    t_PlainMachine_write_together := He.meth_ok (c.t.d.fact 122 (f := .meth "PlainMachine" "write_together") rfl)
    t_PlainMachine_look_at_effects := He.meth_ok (c.t.d.fact 123 (f := .meth "PlainMachine" "look_at_effects") rfl)
    t_PlainMachine_work_off_waiting := He.meth_ok (c.t.d.fact 124 (f := .meth "PlainMachine" "work_off_waiting") rfl)
    c_Scope := He.ga K "Scope"
    m_Scope := He.glo_ok X G (c.t.d.fact 125 (f := .glo "Scope") rfl)
    l_Scope := He.cls_ok (c.t.d.fact 126 (f := .cls "Scope") rfl)
    k_Scope := He.mkr_ok (c.t.d.fact 127 (f := .mkr "Scope") rfl)
    n_Scope_kind := He.noat_ok (c.t.d.fact 128 (f := .noat "Scope" "kind") rfl)
    n_Scope_words := He.noat_ok (c.t.d.fact 129 (f := .noat "Scope" "words") rfl)
    n_Scope_sources := He.noat_ok (c.t.d.fact 130 (f := .noat "Scope" "sources") rfl)
    n_Scope_readable := He.noat_ok (c.t.d.fact 131 (f := .noat "Scope" "readable") rfl)
    c_Program := He.ga K "Program"
    m_Program := He.glo_ok X G (c.t.d.fact 132 (f := .glo "Program") rfl)
    l_Program := He.cls_ok (c.t.d.fact 133 (f := .cls "Program") rfl)
    k_Program := He.mkr_ok (c.t.d.fact 134 (f := .mkr "Program") rfl)
    n_Program_words := He.noat_ok (c.t.d.fact 135 (f := .noat "Program" "words") rfl)
    n_Program_sources := He.noat_ok (c.t.d.fact 136 (f := .noat "Program" "sources") rfl)
    n_Program_derived := He.noat_ok (c.t.d.fact 137 (f := .noat "Program" "derived") rfl)
    n_Program_effects := He.noat_ok (c.t.d.fact 138 (f := .noat "Program" "effects") rfl)
    n_Program__derived_names := He.noat_ok (c.t.d.fact 139 (f := .noat "Program" "_derived_names") rfl)
    n_Program__effect_names := He.noat_ok (c.t.d.fact 140 (f := .noat "Program" "_effect_names") rfl)
    t_Program_cells := He.meth_ok (c.t.d.fact 141 (f := .meth "Program" "cells") rfl)
    t_Program_derived_names := He.meth_ok (c.t.d.fact 142 (f := .meth "Program" "derived_names") rfl)
    t_Program_effect_names := He.meth_ok (c.t.d.fact 143 (f := .meth "Program" "effect_names") rfl)
    t_Program_body := He.meth_ok (c.t.d.fact 144 (f := .meth "Program" "body") rfl)
    t_Program_row_paths := He.meth_ok (c.t.d.fact 145 (f := .meth "Program" "row_paths") rfl)
    t_Program_row_at := He.meth_ok (c.t.d.fact 146 (f := .meth "Program" "row_at") rfl)
    t_Program_with_row := He.meth_ok (c.t.d.fact 147 (f := .meth "Program" "with_row") rfl)
    F_TrueRun_init := F_TrueRun_init
    b_TrueRun_init := F_TrueRun_init.binds (ps := ["self", "default", "known"]) fun _ _ _ _ _ _ _ us hl => match us, hl with | [_, _, _], _ => rfl
    t_TrueRun_parts := He.meth_ok (c.t.d.fact 148 (f := .meth "TrueRun" "parts") rfl)
    a_DERIVED_FORMS := He.ga K "DERIVED_FORMS"
    c_DERIVED_FORMS := He.glo_ok X G (c.t.d.fact 149 (f := .glo "DERIVED_FORMS") rfl)
    w_DERIVED_FORMS := ⟨es_DERIVED_FORMS, n_DERIVED_FORMS, L_DERIVED_FORMS, Y_DERIVED_FORMS, S_DERIVED_FORMS⟩
    w_DERIVED_FORMS_read := kdct_of L_DERIVED_FORMS Y_DERIVED_FORMS (V_DERIVED_FORMS ("read", He.Dv.glo "is_read_row") (by simp))
    w_DERIVED_FORMS_put := kdct_of L_DERIVED_FORMS Y_DERIVED_FORMS (V_DERIVED_FORMS ("put", He.Dv.glo "is_put_row") (by simp))
    w_DERIVED_FORMS_if := kdct_of L_DERIVED_FORMS Y_DERIVED_FORMS (V_DERIVED_FORMS ("if", He.Dv.glo "is_if_row") (by simp))
    w_DERIVED_FORMS_give := kdct_of L_DERIVED_FORMS Y_DERIVED_FORMS (V_DERIVED_FORMS ("give", He.Dv.glo "is_slot_row") (by simp))
    a_EFFECT_FORMS := He.ga K "EFFECT_FORMS"
    c_EFFECT_FORMS := He.glo_ok X G (c.t.d.fact 150 (f := .glo "EFFECT_FORMS") rfl)
    w_EFFECT_FORMS := ⟨es_EFFECT_FORMS, n_EFFECT_FORMS, L_EFFECT_FORMS, Y_EFFECT_FORMS, S_EFFECT_FORMS⟩
    w_EFFECT_FORMS_read := kdct_of L_EFFECT_FORMS Y_EFFECT_FORMS (V_EFFECT_FORMS ("read", He.Dv.glo "is_read_row") (by simp))
    w_EFFECT_FORMS_peek := kdct_of L_EFFECT_FORMS Y_EFFECT_FORMS (V_EFFECT_FORMS ("peek", He.Dv.glo "is_read_row") (by simp))
    w_EFFECT_FORMS_put := kdct_of L_EFFECT_FORMS Y_EFFECT_FORMS (V_EFFECT_FORMS ("put", He.Dv.glo "is_put_row") (by simp))
    w_EFFECT_FORMS_if := kdct_of L_EFFECT_FORMS Y_EFFECT_FORMS (V_EFFECT_FORMS ("if", He.Dv.glo "is_if_row") (by simp))
    w_EFFECT_FORMS_write := kdct_of L_EFFECT_FORMS Y_EFFECT_FORMS (V_EFFECT_FORMS ("write", He.Dv.glo "is_write_row") (by simp))
    w_EFFECT_FORMS_say := kdct_of L_EFFECT_FORMS Y_EFFECT_FORMS (V_EFFECT_FORMS ("say", He.Dv.glo "is_slot_row") (by simp))
    a_ACTIONS := He.ga K "ACTIONS"
    c_ACTIONS := He.glo_ok X G (c.t.d.fact 151 (f := .glo "ACTIONS") rfl)
    w_ACTIONS := ⟨es_ACTIONS, n_ACTIONS, L_ACTIONS, Y_ACTIONS, S_ACTIONS⟩
    w_ACTIONS_read := kdct_of L_ACTIONS Y_ACTIONS (V_ACTIONS ("read", He.Dv.glo "do_read") (by simp))
    w_ACTIONS_peek := kdct_of L_ACTIONS Y_ACTIONS (V_ACTIONS ("peek", He.Dv.glo "do_peek") (by simp))
    w_ACTIONS_put := kdct_of L_ACTIONS Y_ACTIONS (V_ACTIONS ("put", He.Dv.glo "do_put") (by simp))
    w_ACTIONS_write := kdct_of L_ACTIONS Y_ACTIONS (V_ACTIONS ("write", He.Dv.glo "do_write") (by simp))
    w_ACTIONS_say := kdct_of L_ACTIONS Y_ACTIONS (V_ACTIONS ("say", He.Dv.glo "do_say") (by simp))
    xn_InvalidStart_TooManyRuns := He.exm_ok (c.t.d.fact 152 (f := .exm "InvalidStart" "TooManyRuns" false) rfl)
    xn_InvalidDeed_TooManyRuns := He.exm_ok (c.t.d.fact 153 (f := .exm "InvalidDeed" "TooManyRuns" false) rfl)
  }, fun s u => law_binds (ps := ["_law_script"]) F_law (fun _ _ _ _ _ _ us hl => match us, hl with | [_], _ => rfl) s [u] rfl⟩
abbrev R : PySem.W.OpenRow := PySem.W.OpenLaw.row PySem.Challenge.rw_toldonward_k68_whole_plain_machine
def as_ : List Addr := [3, 2, 55, 54, 75, 74, 94, 93, 113, 112, 132, 131, 151, 150, 170, 169, 210, 209, 240, 239, 385, 384, 420, 419, 562, 561, 460, 461, 278, 394, 390, 402, 396, 218, 28, 27, 33, 32, 38, 37, 45, 44, 72, 71, 91, 90, 110, 109, 129, 128, 148, 147, 167, 166, 179, 178, 186, 185, 200, 199, 207, 206, 237, 236, 249, 248, 256, 255, 263, 262, 270, 269, 277, 276, 285, 284, 292, 291, 297, 296, 304, 303, 311, 310, 318, 317, 325, 324, 332, 331, 346, 345, 351, 350, 358, 357, 365, 364, 370, 369, 375, 374, 382, 381, 395, 403, 417, 416, 431, 430, 438, 437, 445, 444, 452, 451, 459, 458, 468, 467, 475, 474, 482, 481, 489, 488, 503, 502, 510, 509, 517, 516, 524, 523, 531, 530, 538, 537, 545, 544, 552, 551, 559, 558, 571, 570, 578, 577, 585, 584, 592, 591, 599, 598, 606, 605, 613, 612, 620, 619, 627, 626, 634, 633, 641, 640, 648, 647, 653, 652, 660, 659, 667, 666, 672, 671, 679, 678, 686, 685, 691, 690, 696, 695, 703, 702, 708, 707, 713, 712, 720, 719, 727, 726, 734, 733, 741, 740, 230, 229]
abbrev hk : PySem.W.Hook := hookV as_ fa fn ts us ex
def ob (s : PySem.W.SharedT) : AlU := obsV as_ fa fn ts us ex (HandSHeadRun.getT s)
theorem ob_eq (s : PySem.W.SharedT) : ob s = hk.obs s.abs := obsV_eq (HandSHeadRun.getT_eq s)
def loose0 : List Str := ["_wall", "LONGEST_NAME", "is_integer", "is_name", "are_names", "are_named_pairs", "ToldError", "InvalidProgram", "InvalidStart", "InvalidDeed", "InvalidBound", "UnknownCell", "TooManyRuns", "GREATEST_MOST", "check_bound", "check_most", "Record", "TrueRun", "do_read", "do_peek", "do_put", "do_write", "do_say", "ACTIONS", "do_rows", "run_truly", "is_start", "check_start", "known_words", "is_deed"]
def loose1 : List Str := ["is_write", "is_batch", "PlainMachine", "plain_begin", "plain_step", "MOST_ROWS", "DEEPEST_IF", "Scope", "is_read_row", "is_put_row", "is_if_row", "is_slot_row", "is_write_row", "DERIVED_FORMS", "EFFECT_FORMS", "check_of", "is_valid_row", "first_wrong_path", "paths_of_rows", "LEAST_WORDS", "MOST_WORDS", "LEAST_SOURCES", "MOST_SOURCES", "MOST_DERIVED", "MOST_EFFECTS", "Program", "names_of", "check_parts", "check_bodies", "check_body"]
def loose2 : List Str := ["_law_state", "_law_draw", "_law_names", "_law_many", "_law_row", "_law_rows", "_law_parts", "_law_program", "_law_words", "_law_wrong_words", "_law_plain_start", "_law_effect", "_law_give", "_law_true", "_law_plain_run", "_law_plain_write", "_law_plain_rest", "_law_plain_begin", "_law_deed", "_law_plain_step", "_law_plain_deed", "_law_no_deed"]
def loose : List Str := loose0 ++ (loose1 ++ (loose2))
end K68
namespace K68
open PySem PySem.Spec PyProof.Rows L2 Td
abbrev RunOk (w : World) : Prop := HandSHeadRun.RunEq R (PySem.W.view R.prog [92]) hk ob 8000 loose w
theorem run_f (w : World) : RunOk (w.withFollow "special-get-raises" false) := by
  intro os
  kernel_rfl
theorem run_t (w : World) : RunOk (w.withFollow "special-get-raises" true) := by
  intro os
  kernel_rfl
theorem run (w : World) : HandSHeadRun.RunEq R (PySem.W.view R.prog [92]) hk ob 8000 loose w := PySem.W.byRow2 "special-get-raises" (P := RunOk) run_f run_t w
end K68
open PySem PySem.W PySem.Calls PyProof.Rows
set_option maxRecDepth 100000 in
set_option maxHeartbeats 0 in
theorem PySem.Challenge.cw_toldonward_k68_whole_plain_machine_holds : PySem.Challenge.rw_toldonward_k68_whole_plain_machine.Holds := by
  w_on; o_law
  refine HandSHeadRun.head_any (r := OpenLaw.row PySem.Challenge.rw_toldonward_k68_whole_plain_machine) (q := view (OpenLaw.row PySem.Challenge.rw_toldonward_k68_whole_plain_machine).prog [92]) (H := K68.hk) (ob := K68.ob) (M := 8000) (loose := K68.loose) (d := HandSHeadRun.topDef (OpenLaw.row PySem.Challenge.rw_toldonward_k68_whole_plain_machine).prog 92) (kwd := []) K68.ob_eq
    (by kernel_rfl) (fun s => by kernel_rfl) K68.run (by kernel_rfl) (by kernel_rfl) (by kernel_rfl) (by rfl) (by first | assumption | decide +kernel) (by decide +kernel) ⟨rfl, rfl, rfl, rfl, rfl, by decide +kernel⟩ ?hw ?hc
  case hw => w_witness2
  case hc =>
    refine L2.walk_ofE (l := PySem.Challenge.rw_toldonward_k68_whole_plain_machine) (n := 63) (k := 15) (x := "_law_script") (CX := L2.CX0) rfl (by decide) (by kernel_rfl) ⟨rfl, by decide, by decide⟩ ?F (fun _ _ _ _ z => z)
    intro w mg fa h Y G hmg0
    obtain ⟨K, KX, c⟩ := Y
    have hmg : mg ("law" : PySem.Str) = some (.ref fa) := by
      have e : (HandSHeadRun.topDef (OpenLaw.row PySem.Challenge.rw_toldonward_k68_whole_plain_machine).prog 92).name = ("law" : PySem.Str) := by kernel_rfl
      rw [← e]
      exact hmg0
    obtain ⟨T, hb⟩ := K68.tops KX G c
    have e := hmg.symm.trans T.m_law
    cases e
    exact ⟨K, T.d_law, K68.spLaw K, KX, hb, fun H a ns hl _ hS => ⟨a, ns, rfl, hS, hl, fun _ => rfl⟩, fun base _ _ => K68.law_of T⟩
